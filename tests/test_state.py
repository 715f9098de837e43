"""Promise 1: state, ups."""

import unittest

from layerwords.steps import answers
from tests.lines import about, all_words, told


class StateAndUps(unittest.TestCase):
    def test_every_word(self):
        for count in range(1, 11):
            for text in all_words(count):
                self.assertEqual(about(text, ("state",), ("ups",)),
                                 [told(text), [text.count("1"), text.count("0")]], text)

    def test_written_by_hand(self):
        self.assertEqual(answers([0, 4, 1, 0, 1, 1, 17, 16]), [1, 4, 5, 4, 1, 0, 1, 1, 2, 3, 1])

    def test_none_up_or_none_down(self):
        self.assertEqual(about("0", ("ups",)), [[0, 1]])
        self.assertEqual(about("1111111111", ("ups",)), [[10, 0]])

    def test_behind_each_change(self):
        self.assertEqual(
            about("11010", ("later", 3), ("state",), ("opposite",), ("state",), ("turn", 4), ("state",),
                  ("backwards",), ("state",), ("over",), ("state",))[1::2],
            [told("10110"), told("01001"), told("01000"), told("00010"), told("10111")])

    def test_ups_behind_each_change(self):
        self.assertEqual(
            about("11010", ("later", 3), ("ups",), ("opposite",), ("ups",), ("turn", 4), ("ups",),
                  ("backwards",), ("ups",), ("over",), ("ups",), ("start", [1, 1]), ("ups",))[1::2],
            [[3, 2], [2, 3], [1, 4], [1, 4], [4, 1], [2, 0]])

    def test_behind_each_refusal(self):
        refused = {
            ("later", 5): -22, ("turn", 5): -2, ("way", 20): -22, ("nth", 20): -2,
            ("start", ()): -22, ("start", (0, 1, 2)): -22, ("start", (1,) * 11): -22,
            ("which", ()): -22, ("which", (2,)): -22, ("which", (0, 0, 0, 0, 0)): -33, ("which", (1, 1)): -33,
            ("alike", ()): -22, ("alike", (2,)): -22, ("alike", (0, 0, 0, 0, 0)): -33, ("alike", (1, 1)): -33,
        }
        for (name, tells), number in refused.items():
            with self.subTest(name=name, tells=tells):
                call = (name, list(tells) if isinstance(tells, tuple) else tells)
                self.assertEqual(about("11010", call, ("state",), ("ups",)), [[number], told("11010"), [3, 2]])

    def test_behind_each_call_that_only_tells(self):
        calls = (("way", 7), ("first",), ("names",), ("nth", 3), ("which", [0, 1, 1, 0, 1]), ("leaves",), ("four",),
                 ("alike", [0, 1, 1, 0, 1]), ("handed",), ("again",), ("ups",), ("state",))
        for call in calls:
            with self.subTest(call):
                found = about("11010", call, ("state",), call, ("turn", 0))
                self.assertEqual(found[1], told("11010"))
                self.assertEqual(found[2], found[0])
                self.assertEqual(found[3], told("01010"))


if __name__ == "__main__":
    unittest.main()
