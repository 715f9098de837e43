"""Promise 3: alike; and what which and alike have in common."""

import unittest

from tests.lines import BIGGEST, about, all_words, made_by_ways, steps, told


def alike(text, *others):
    return about(text, *[("alike", steps(other)) for other in others])


class Alike(unittest.TestCase):
    def test_by_hand(self):
        # 110 begun later: 110 101 011; then opposite: 001 010 100; that is all.
        self.assertEqual(alike("110", "110", "101", "011", "001", "010", "100", "000", "111"),
                         [[0], [1], [2], [3], [4], [5], [-33], [-33]])

    def test_first_and_last_way_of_each_kind(self):
        self.assertEqual(alike("1101000", "1101000", "0110100", "0010111", "1001011", "0001011", "0010110",
                               "1110100", "1101001"),
                         [[0], [6], [7], [13], [14], [20], [21], [27]])

    def test_the_least_way_of_several(self):
        self.assertEqual(alike("1111", "1111", "0000"), [[0], [4]])
        self.assertEqual(alike("1010", "1010", "0101"), [[0], [1]])
        self.assertEqual(alike("011011", "110110", "101101", "100100"), [[1], [2], [6]])

    def test_it_is_a_way_from_this_word_to_that(self):
        # The other way round it would be 1.
        self.assertEqual(alike("1101000", "0110100"), [[6]])
        self.assertEqual(alike("0110100", "1101000"), [[1]])

    def test_every_pair_of_words_of_one_length(self):
        for count in range(1, 8):
            words = all_words(count)
            for text in words:
                made = made_by_ways(text)
                expected = [[made.index(other)] if other in made else [-33] for other in words]
                self.assertEqual(alike(text, *words), expected, text)

    def test_every_way_of_longer_words(self):
        for count in (8, 9, 10):
            for text in all_words(count)[::7]:
                made = made_by_ways(text)
                self.assertEqual(alike(text, *made), [[made.index(other)] for other in made], text)

    def test_longer_words_that_are_not_alike(self):
        for count in (8, 9, 10):
            words = all_words(count)
            for text in words[::97]:
                made = made_by_ways(text)
                others = [other for other in words if other not in made][::11]
                self.assertEqual(alike(text, *others), [[-33]] * len(others), text)

    def test_way_makes_the_word_that_was_asked_for(self):
        for text, other in (("1", "0"), ("110", "100"), ("1101000", "1110100"), ("0010110111", "1101001000")):
            with self.subTest(text):
                t = alike(text, other)[0][0]
                self.assertEqual(about(text, ("way", t)), [told(other)])


class WhichAndAlike(unittest.TestCase):
    def test_word_of_other_length(self):
        for text in ("0", "1", "01", "011", "1111", "0101010101"):
            for count in range(1, 11):
                if count != len(text):
                    for other in ((text * 10)[:count], "0" * count, "1" * count):
                        with self.subTest(text=text, other=other):
                            self.assertEqual(about(text, ("which", steps(other)), ("alike", steps(other))),
                                             [[-33], [-33]])

    def test_the_word_stays(self):
        for row in (steps("011"), steps("111"), steps("01"), [], [2, 0, 1], [1] * 60):
            with self.subTest(row):
                self.assertEqual(about("110", ("which", row), ("state",), ("alike", row), ("state",))[1::2],
                                 [told("110"), told("110")])


class NotAWord(unittest.TestCase):
    def test_it_is_refused_as_at_start(self):
        rows = [[], [0] * 11, [1] * 11, [0, 1] * 6, [1] * 60, [2], [0, 2], [2, 0, 1], [0, 1, 2], [BIGGEST, 1, 1],
                [1, BIGGEST, 0], [1, 1, 2 ** 31], [0] * 9 + [3], [7] * 60]
        for text in ("1", "110", "0010110111"):
            for row in rows:
                for name in ("start", "which", "alike"):
                    with self.subTest(text=text, row=row, name=name):
                        self.assertEqual(about(text, (name, row), ("state",)), [[-22], told(text)])

    def test_it_goes_ahead_of_not_alike(self):
        for row in ([0, 2], [1, 1, 1, 5], [0] * 11):
            for name in ("which", "alike"):
                with self.subTest(row=row, name=name):
                    self.assertEqual(about("111", (name, row), (name, [0, 1])), [[-22], [-33]])


if __name__ == "__main__":
    unittest.main()
