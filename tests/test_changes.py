"""Promise 1: start, later, opposite, backwards, over, turn."""

import unittest

from tests.lines import BIGGEST, all_words, ask, steps, told, way_by_text

# Way 0 tells the word and leaves it: so a test sees what the word is.
WORD = ("way", 0)


class Start(unittest.TestCase):
    def test_tells_how_many_steps(self):
        for count in range(1, 11):
            for text in ("0" * count, "1" * count, ("01" * count)[:count]):
                with self.subTest(text):
                    self.assertEqual(ask(("start", steps(text)), WORD), [[count], told(text)])

    def test_too_few_or_too_many_steps(self):
        for count in (0, 11, 12, 20, 59, 60):
            with self.subTest(count):
                self.assertEqual(ask(("start", [1] * count)), [[-22]])
                self.assertEqual(ask(("start", [0] * count)), [[-22]])

    def test_step_that_is_neither_up_nor_down(self):
        for wrong in (2, 3, 10, 255, 256, 2 ** 31, BIGGEST):
            for place in range(10):
                with self.subTest(wrong=wrong, place=place):
                    row = [0, 1, 1, 0, 1, 0, 0, 1, 0, 1]
                    row[place] = wrong
                    self.assertEqual(ask(("start", row)), [[-22]])
            self.assertEqual(ask(("start", [wrong])), [[-22]])

    def test_refused_start_leaves_the_word(self):
        for row in ([], [0] * 11, [1] * 60, [0, 2], [BIGGEST], [1, 1, 1, 5] + [0] * 20):
            with self.subTest(row):
                self.assertEqual(ask(("start", steps("1101")), ("start", row), WORD),
                                 [[4], [-22], told("1101")])

    def test_start_again_takes_the_place_of_the_word(self):
        self.assertEqual(ask(("start", steps("1101")), ("start", steps("0")), WORD, ("start", steps("1" * 10)), WORD),
                         [[4], [1], told("0"), [10], told("1" * 10)])


class Later(unittest.TestCase):
    def test_every_beginning_of_a_word(self):
        text = "1101000101"
        for k in range(10):
            with self.subTest(k):
                expected = told(text[k:] + text[:k])
                self.assertEqual(ask(("start", steps(text)), ("later", k), WORD), [[10], expected, expected])

    def test_by_hand(self):
        self.assertEqual(ask(("start", steps("10010")), ("later", 2), ("later", 0), ("later", 4)),
                         [[5], told("01010"), told("01010"), told("00101")])

    def test_at_and_above_the_number_of_steps(self):
        for count in range(1, 11):
            text = "0" * (count - 1) + "1"
            for k in (count, count + 1, 2 * count, 4 * count, 60, 2 ** 31, BIGGEST):
                with self.subTest(count=count, k=k):
                    self.assertEqual(ask(("start", steps(text)), ("later", k), WORD), [[count], [-22], told(text)])

    def test_just_below_the_number_of_steps(self):
        for count in range(1, 11):
            text = "0" * (count - 1) + "1"
            with self.subTest(count):
                self.assertEqual(ask(("start", steps(text)), ("later", count - 1)),
                                 [[count], told("1" + "0" * (count - 1))])


class OppositeBackwardsOver(unittest.TestCase):
    def check(self, name, before, behind):
        self.assertEqual(ask(("start", steps(before)), (name,), WORD, (name,), WORD),
                         [[len(before)], told(behind), told(behind), told(before), told(before)])

    def test_opposite(self):
        for before, behind in (("0", "1"), ("110", "001"), ("1111111111", "0000000000"), ("0010110111", "1101001000")):
            with self.subTest(before):
                self.check("opposite", before, behind)

    def test_backwards(self):
        for before, behind in (("1", "1"), ("110", "011"), ("0000000001", "1000000000"), ("0010110111", "1110110100")):
            with self.subTest(before):
                self.check("backwards", before, behind)

    def test_over(self):
        for before, behind in (("1", "0"), ("110", "100"), ("10", "10"), ("0000000001", "0111111111"),
                               ("0010110111", "0001001011")):
            with self.subTest(before):
                self.check("over", before, behind)

    def test_over_is_backwards_and_opposite(self):
        for count in range(1, 11):
            for text in all_words(count):
                start = ("start", steps(text))
                found = ask(start, ("over",), start, ("backwards",), ("opposite",), start, ("opposite",),
                            ("backwards",))
                self.assertEqual(found[1], told(way_by_text(text, 3 * count)), text)
                self.assertEqual(found[4], found[1], text)
                self.assertEqual(found[7], found[1], text)


class Turn(unittest.TestCase):
    def test_each_step_of_a_word(self):
        text = "1101000101"
        for i in range(10):
            with self.subTest(i):
                other = "0" if text[i] == "1" else "1"
                expected = told(text[:i] + other + text[i + 1:])
                self.assertEqual(ask(("start", steps(text)), ("turn", i), WORD, ("turn", i)),
                                 [[10], expected, expected, told(text)])

    def test_first_and_last_step(self):
        for count in range(1, 11):
            with self.subTest(count):
                self.assertEqual(ask(("start", [0] * count), ("turn", 0), ("turn", 0), ("turn", count - 1)),
                                 [[count], told("1" + "0" * (count - 1)), told("0" * count),
                                  told("0" * (count - 1) + "1")])

    def test_no_such_step(self):
        for count in range(1, 11):
            text = "1" * (count - 1) + "0"
            for i in (count, count + 1, 11, 60, 2 ** 31, BIGGEST):
                with self.subTest(count=count, i=i):
                    self.assertEqual(ask(("start", steps(text)), ("turn", i), WORD), [[count], [-2], told(text)])


class OneBehindAnother(unittest.TestCase):
    def test_each_change_goes_on_from_the_last(self):
        self.assertEqual(
            ask(("start", steps("11010")), ("later", 3), ("opposite",), ("turn", 4), ("backwards",), ("over",),
                ("later", 5), ("turn", 5), ("start", [3]), ("turn", 0)),
            [[5], told("10110"), told("01001"), told("01000"), told("00010"), told("10111"), [-22], [-2], [-22],
             told("00111")])


if __name__ == "__main__":
    unittest.main()
