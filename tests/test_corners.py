"""The corners that the document lists, each through all calls that tell of a word."""

import unittest

from tests.lines import about, all_words, steps, told, way_by_text

ASKED = (("state",), ("ups",), ("leaves",), ("four",), ("handed",), ("again",), ("first",), ("names",))


class Corners(unittest.TestCase):
    def check(self, text, ups, leaves, four, handed, again, first, names):
        expected = [told(text), ups, [len(leaves)] + leaves, [4] + four, [handed], [again], told(first), [names]]
        self.assertEqual(about(text, *ASKED), expected)

    def test_one_step(self):
        self.check("0", [0, 1], [0, 2], [1, 0, 1, 0], 0, 1, "0", 2)
        self.check("1", [1, 0], [0, 2], [1, 0, 1, 0], 0, 1, "0", 2)
        self.assertEqual(about("1", ("nth", 0), ("nth", 1), ("nth", 2), ("which", [0]), ("which", [1]),
                               ("alike", [0]), ("alike", [1]), ("which", [1, 1]), ("alike", [1, 1])),
                         [[1, 0], [1, 1], [-2], [0], [1], [1], [0], [-33], [-33]])

    def test_all_alike(self):
        for count in range(1, 11):
            for sign, ups in (("1", [count, 0]), ("0", [0, count])):
                with self.subTest(sign * count):
                    leaves = list(range(count)) + list(range(2 * count, 3 * count))
                    self.check(sign * count, ups, leaves, [count, 0, count, 0], 0, 1, "0" * count, 2)
        self.assertEqual(about("11111", ("nth", 0), ("nth", 1), ("nth", 2), ("which", [1] * 5), ("alike", [0] * 5),
                               ("which", [1, 1, 1, 1, 0]), ("alike", [1, 1, 1, 1, 0])),
                         [told("00000"), told("11111"), [-2], [1], [5], [-33], [-33]])

    def test_itself_begun_later(self):
        self.check("110110110", [6, 3], [0, 3, 6, 20, 23, 26], [3, 0, 3, 0], 0, 3, "001001001", 6)
        self.assertEqual(about("110110110", ("nth", 2), ("nth", 6), ("which", steps("101101101")),
                               ("alike", steps("011011011")), ("alike", steps("001001001"))),
                         [told("011011011"), [-2], [4], [2], [9]])

    def test_itself_opposite_begun_later(self):
        self.check("110001", [3, 3], [0, 9, 13, 22], [1, 1, 1, 1], 0, 6, "000111", 6)
        self.assertEqual(about("110001", ("which", steps("001110")), ("alike", steps("001110")),
                               ("alike", steps("011100"))),
                         [[1], [3], [4]])

    def test_no_way_leaves_it_but_the_first(self):
        self.check("11010000", [3, 5], [0], [1, 0, 0, 0], 1, 8, "00001011", 32)
        self.assertEqual(about("11010000", ("nth", 31), ("nth", 32), ("alike", steps("00001011")),
                               ("alike", steps("11110100"))),
                         [told("11110100"), [-2], [16], [24]])

    def test_handed(self):
        for text in ("0001011", "1101000", "11010000", "110100000", "1011001000"):
            with self.subTest(text):
                other_side = (("backwards",), ("over",))
                for change in other_side:
                    found = about(text, change, ("handed",), ("alike", steps(text)))
                    self.assertEqual(found[1], [1])
                    # They are alike, but through a way of the last two kinds alone.
                    self.assertGreaterEqual(found[2][0], 2 * len(text))

    def test_no_word_of_fewer_than_seven_steps_is_handed(self):
        for count in range(1, 7):
            for text in all_words(count):
                self.assertEqual(about(text, ("handed",)), [[0]], text)

    def test_word_of_other_length(self):
        # Begun again and again these are the same layers, but they are words of other length.
        for text, other in (("10", "1010"), ("1010", "10"), ("110", "110110"), ("110110", "110"), ("1", "11"),
                            ("11011", "1101111011"), ("1101111011", "11011")):
            with self.subTest(text=text, other=other):
                self.assertEqual(about(text, ("which", steps(other)), ("alike", steps(other)), ("state",)),
                                 [[-33], [-33], told(text)])

    def test_ten_steps(self):
        text = "1011001000"
        self.check(text, [4, 6], [0], [1, 0, 0, 0], 1, 10, "0001001101", 40)
        self.assertEqual(about(text, ("nth", 39), ("nth", 40), ("way", 39), ("way", 40),
                               ("alike", steps(way_by_text(text, 39))), ("which", steps("1110110010"))),
                         [told("1110110010"), [-2], told(way_by_text(text, 39)), [-22], [39], [39]])
        self.assertEqual(about(text, ("which", [0] * 11), ("alike", [0] * 11), ("which", [0] * 10),
                               ("alike", [0] * 10), ("which", [0] * 9), ("alike", [0] * 9)),
                         [[-22], [-22], [-33], [-33], [-33], [-33]])


if __name__ == "__main__":
    unittest.main()
