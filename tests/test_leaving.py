"""Promise 2: leaves, four, handed, again."""

import unittest

from layerwords.steps import answers
from tests.lines import about, all_words, made_by_ways, told, way_by_text


def leaving(text):
    return [t for t, made in enumerate(made_by_ways(text)) if made == text]


class ByHand(unittest.TestCase):
    def test_leaves_and_four(self):
        table = {
            "1": ([0, 2], [1, 0, 1, 0]),
            "10": ([0, 3, 5, 6], [1, 1, 1, 1]),
            "111": ([0, 1, 2, 6, 7, 8], [3, 0, 3, 0]),
            "110": ([0, 8], [1, 0, 1, 0]),
            "1100": ([0, 6, 10, 12], [1, 1, 1, 1]),
            "1010": ([0, 2, 5, 7, 9, 11, 12, 14], [2, 2, 2, 2]),
            "110100": ([0, 18], [1, 0, 0, 1]),
            "1101000": ([0], [1, 0, 0, 0]),
            "1101000101": ([0, 15, 21, 36], [1, 1, 1, 1]),
        }
        for text, (ways, counts) in table.items():
            with self.subTest(text):
                self.assertEqual(about(text, ("leaves",), ("four",)), [[len(ways)] + ways, [4] + counts])

    def test_again(self):
        for text, k in (("0", 1), ("1", 1), ("10", 2), ("11", 1), ("1010", 2), ("110110", 3), ("101010", 2),
                        ("110", 3), ("1100", 4), ("11011100", 8), ("1101110101", 10), ("1101011010", 5),
                        ("1111111111", 1), ("110110110", 3), ("10011001", 4), ("1001100110", 10)):
            with self.subTest(text):
                self.assertEqual(about(text, ("again",)), [[k]])

    def test_handed(self):
        for text, number in (("1", 0), ("110", 0), ("1100", 0), ("110100", 0), ("1101000", 1), ("0010111", 1),
                             ("11010000", 1), ("0010110111", 1), ("1111111111", 0)):
            with self.subTest(text):
                self.assertEqual(about(text, ("handed",)), [[number]])

    def test_form_of_the_answers(self):
        self.assertEqual(answers([0, 3, 1, 1, 0, 11, 12, 14, 15]), [1, 3, 3, 2, 0, 8, 5, 4, 1, 0, 1, 0, 1, 0, 1, 3])


class EveryWord(unittest.TestCase):
    def test_leaves(self):
        for count in range(1, 11):
            for text in all_words(count):
                ways = leaving(text)
                self.assertEqual(about(text, ("leaves",)), [[len(ways)] + ways], text)

    def test_leaves_by_the_ways_the_program_tells(self):
        for count in range(1, 8):
            for text in all_words(count):
                found = about(text, *[("way", t) for t in range(4 * count)], ("leaves",))
                ways = [t for t in range(4 * count) if found[t] == told(text)]
                self.assertEqual(found[-1], [len(ways)] + ways, text)

    def test_four(self):
        for count in range(1, 11):
            for text in all_words(count):
                counts = [sum(way_by_text(text, kind * count + begun) == text for begun in range(count))
                          for kind in range(4)]
                self.assertEqual(about(text, ("four",)), [[4] + counts], text)

    def test_handed(self):
        for count in range(1, 11):
            for text in all_words(count):
                # Read from the other side it stands somewhere in the endless row, or it never does.
                row = text + text
                reverse = text[::-1]
                turned = "".join("1" if sign == "0" else "0" for sign in reverse)
                self.assertEqual(about(text, ("handed",)), [[0 if reverse in row or turned in row else 1]], text)

    def test_again(self):
        for count in range(1, 11):
            for text in all_words(count):
                self.assertEqual(about(text, ("again",)), [[(text + text).find(text, 1)]], text)


class OfTheWordAsItIsNow(unittest.TestCase):
    def test_behind_changes(self):
        asked = (("leaves",), ("four",), ("handed",), ("again",))
        changes = (("later", 2), ("opposite",), ("turn", 3), ("backwards",), ("turn", 0), ("over",), ("turn", 9),
                   ("start", [1, 0]))
        calls = []
        for change in changes:
            calls.extend([change, ("state",), *asked])
        found = about("0010110111", *calls)
        for at in range(0, len(found), 6):
            text = "".join(str(step) for step in found[at + 1][1:])
            with self.subTest(calls[at]):
                self.assertEqual(found[at + 2:at + 6], about(text, *asked))


if __name__ == "__main__":
    unittest.main()
