"""Promise 3: first, names; and what holds of them."""

import unittest

from tests.lines import all_words, ask, steps, told, way_by_text


def made_by_ways(text):
    return [way_by_text(text, t) for t in range(4 * len(text))]


def first_and_names(text):
    found = ask(("start", steps(text)), ("first",), ("names",))
    return found[1:]


class ByHand(unittest.TestCase):
    def check(self, text, first, names):
        self.assertEqual(first_and_names(text), [told(first), [names]])

    def test_one_step(self):
        self.check("0", "0", 2)
        self.check("1", "0", 2)

    def test_all_the_same_steps(self):
        for count in range(1, 11):
            with self.subTest(count):
                self.check("1" * count, "0" * count, 2)
                self.check("0" * count, "0" * count, 2)

    def test_itself_begun_later_and_opposite(self):
        self.check("10", "01", 2)
        self.check("1010101010", "0101010101", 2)
        self.check("1100", "0011", 4)

    def test_some_between(self):
        self.check("110", "001", 6)
        self.check("1111011111", "0000000001", 20)

    def test_handed_and_left_by_the_first_way_alone(self):
        self.check("1101000", "0001011", 28)
        self.check("0010111", "0001011", 28)
        self.check("0010110111", "0001001011", 40)


class AgainstTheWays(unittest.TestCase):
    def test_first_and_names_of_every_word(self):
        for count in range(1, 11):
            for text in all_words(count):
                made = made_by_ways(text)
                self.assertEqual(first_and_names(text), [told(min(made)), [len(set(made))]], text)

    def test_against_the_ways_the_program_tells(self):
        for text in ("1", "01", "110", "1100", "10110", "110100", "1101000", "11110000", "110110110", "0010110111"):
            with self.subTest(text):
                count = len(text)
                found = ask(("start", steps(text)), *[("way", t) for t in range(4 * count)], ("first",), ("names",))
                made = found[1:1 + 4 * count]
                self.assertEqual(found[-2], min(made))
                self.assertEqual(found[-1], [len(set(map(tuple, made)))])
                self.assertEqual(found[-1][0] * made.count(told(text)), 4 * count)

    def test_the_word_stays(self):
        for text in ("1", "110", "0010110111"):
            with self.subTest(text):
                self.assertEqual(ask(("start", steps(text)), ("first",), ("way", 0), ("names",), ("way", 0))[2::2],
                                 [told(text), told(text)])

    def test_they_are_of_the_word_as_it_is_now(self):
        self.assertEqual(ask(("start", steps("111")), ("names",), ("turn", 1), ("first",), ("names",),
                             ("start", [5]), ("names",)),
                         [[3], [2], told("101"), told("001"), [6], [-22], [6]])


class WhatHolds(unittest.TestCase):
    def test_alike_words_have_one_first_name_and_as_many_names(self):
        for count in range(1, 11):
            found = {text: first_and_names(text) for text in all_words(count)}
            for text in found:
                for other in made_by_ways(text):
                    self.assertEqual(found[other], found[text], (text, other))

    def test_words_with_one_first_name_are_alike(self):
        for count in range(1, 9):
            groups = {}
            for text in all_words(count):
                groups.setdefault(tuple(first_and_names(text)[0]), []).append(text)
            for group in groups.values():
                self.assertEqual(sorted(set(made_by_ways(group[0]))), group)

    def test_how_many_first_names_there_are(self):
        # Known apart from this program: rings of beads of two colours, turned over or with the colours changed alike.
        known = [1, 2, 2, 4, 4, 8, 9, 18, 23, 44]
        counted = [len({tuple(first_and_names(text)[0]) for text in all_words(count)}) for count in range(1, 11)]
        self.assertEqual(counted, known)

    def test_changes_but_turn_keep_first_and_names(self):
        for text in ("1", "10", "1101", "1101000", "0010110111"):
            with self.subTest(text):
                changes = (("later", len(text) - 1), ("opposite",), ("backwards",), ("over",))
                calls = [("start", steps(text))]
                for change in changes:
                    calls.extend([change, ("first",), ("names",)])
                found = ask(*calls)
                self.assertEqual(found[2::3] + found[3::3],
                                 [first_and_names(text)[0]] * 4 + [first_and_names(text)[1]] * 4)


if __name__ == "__main__":
    unittest.main()
