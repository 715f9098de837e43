"""Promise 3: first, names, nth, which."""

import unittest

from tests.lines import BIGGEST, about, all_words, ask, made_by_ways, steps, told


def first_and_names(text):
    return about(text, ("first",), ("names",))


class ByHand(unittest.TestCase):
    def check(self, text, first, names):
        self.assertEqual(first_and_names(text), [told(first), [names]])

    def test_one_step(self):
        self.check("0", "0", 2)
        self.check("1", "0", 2)

    def test_all_the_same_steps(self):
        for count in range(1, 11):
            with self.subTest(count):
                self.check("1" * count, "0" * count, 2)
                self.check("0" * count, "0" * count, 2)

    def test_itself_begun_later_and_opposite(self):
        self.check("10", "01", 2)
        self.check("1010101010", "0101010101", 2)
        self.check("1100", "0011", 4)

    def test_some_between(self):
        self.check("110", "001", 6)
        self.check("1111011111", "0000000001", 20)

    def test_handed_and_left_by_the_first_way_alone(self):
        self.check("1101000", "0001011", 28)
        self.check("0010111", "0001011", 28)
        self.check("0010110111", "0001001011", 40)


class AgainstTheWays(unittest.TestCase):
    def test_first_and_names_of_every_word(self):
        for count in range(1, 11):
            for text in all_words(count):
                made = made_by_ways(text)
                self.assertEqual(first_and_names(text), [told(min(made)), [len(set(made))]], text)

    def test_against_the_ways_the_program_tells(self):
        for text in ("1", "01", "110", "1100", "10110", "110100", "1101000", "11110000", "110110110", "0010110111"):
            with self.subTest(text):
                count = len(text)
                found = ask(("start", steps(text)), *[("way", t) for t in range(4 * count)], ("first",), ("names",))
                made = found[1:1 + 4 * count]
                self.assertEqual(found[-2], min(made))
                self.assertEqual(found[-1], [len(set(map(tuple, made)))])
                self.assertEqual(found[-1][0] * made.count(told(text)), 4 * count)

    def test_the_word_stays(self):
        for text in ("1", "110", "0010110111"):
            with self.subTest(text):
                self.assertEqual(ask(("start", steps(text)), ("first",), ("way", 0), ("names",), ("way", 0))[2::2],
                                 [told(text), told(text)])

    def test_they_are_of_the_word_as_it_is_now(self):
        self.assertEqual(ask(("start", steps("111")), ("names",), ("turn", 1), ("first",), ("names",),
                             ("start", [5]), ("names",)),
                         [[3], [2], told("101"), told("001"), [6], [-22], [6]])


class FirstNames(unittest.TestCase):
    def test_how_many_first_names_there_are(self):
        # Known apart from this program: rings of beads of two colours, turned over or with the colours changed alike.
        known = [1, 2, 2, 4, 4, 8, 9, 18, 23, 44]
        counted = [len({tuple(first_and_names(text)[0]) for text in all_words(count)}) for count in range(1, 11)]
        self.assertEqual(counted, known)

    def test_changes_but_turn_keep_first_and_names(self):
        for text in ("1", "10", "1101", "1101000", "0010110111"):
            with self.subTest(text):
                changes = (("later", len(text) - 1), ("opposite",), ("backwards",), ("over",))
                calls = [("start", steps(text))]
                for change in changes:
                    calls.extend([change, ("first",), ("names",)])
                found = ask(*calls)
                self.assertEqual(found[2::3] + found[3::3],
                                 [first_and_names(text)[0]] * 4 + [first_and_names(text)[1]] * 4)


class Nth(unittest.TestCase):
    def test_by_hand(self):
        names = ("001", "010", "011", "100", "101", "110")
        self.assertEqual(about("110", *[("nth", k) for k in range(6)]), [told(name) for name in names])

    def test_few_names(self):
        self.assertEqual(about("1010", ("nth", 0), ("nth", 1), ("nth", 2)), [told("0101"), told("1010"), [-2]])
        self.assertEqual(about("1100", *[("nth", k) for k in range(5)]),
                         [told("0011"), told("0110"), told("1001"), told("1100"), [-2]])

    def test_the_names_of_every_word_in_order(self):
        for count in range(1, 11):
            for text in all_words(count):
                names = sorted(set(made_by_ways(text)))
                found = about(text, *[("nth", k) for k in range(len(names) + 1)])
                self.assertEqual(found, [told(name) for name in names] + [[-2]], text)

    def test_the_first_of_them_is_the_first_name(self):
        for text in ("1", "110", "1101000", "1011001000"):
            with self.subTest(text):
                found = about(text, ("first",), ("nth", 0))
                self.assertEqual(found[0], found[1])

    def test_it_has_not_so_many(self):
        for text in ("0", "1", "10", "110", "1111111111", "1101000", "0010110111"):
            names = len(set(made_by_ways(text)))
            for k in (names, names + 1, 2 * names, 60, 2 ** 31, BIGGEST):
                with self.subTest(text=text, k=k):
                    self.assertEqual(about(text, ("nth", k), ("state",)), [[-2], told(text)])

    def test_the_word_stays(self):
        self.assertEqual(about("110", ("nth", 0), ("state",), ("nth", 4), ("state",))[1::2], [told("110")] * 2)


class Which(unittest.TestCase):
    def which(self, text, *others):
        return about(text, *[("which", steps(other)) for other in others])

    def test_by_hand(self):
        self.assertEqual(self.which("110", "001", "010", "011", "100", "101", "110", "000", "111"),
                         [[0], [1], [2], [3], [4], [5], [-33], [-33]])
        self.assertEqual(self.which("1100", "1100", "0011", "1001", "0110", "0101", "0001", "1111"),
                         [[3], [0], [2], [1], [-33], [-33], [-33]])

    def test_every_pair_of_words_of_one_length(self):
        for count in range(1, 8):
            words = all_words(count)
            for text in words:
                names = sorted(set(made_by_ways(text)))
                expected = [[names.index(other)] if other in names else [-33] for other in words]
                self.assertEqual(self.which(text, *words), expected, text)

    def test_it_undoes_nth(self):
        for count in (8, 9, 10):
            for text in all_words(count)[::7]:
                names = about(text, ("names",))[0][0]
                told_names = about(text, *[("nth", k) for k in range(names)])
                found = about(text, *[("which", name[1:]) for name in told_names])
                self.assertEqual(found, [[k] for k in range(names)], text)


if __name__ == "__main__":
    unittest.main()
