"""Promise 2: way."""

import unittest

from tests.lines import BIGGEST, all_words, ask, steps, told, way_by_text


class Way(unittest.TestCase):
    def test_edges_of_the_four_kinds_by_hand(self):
        expected = {
            0: "11010", 4: "01101",
            5: "00101", 9: "10010",
            10: "01011", 14: "10110",
            15: "10100", 19: "01001",
        }
        for t, text in expected.items():
            with self.subTest(t):
                self.assertEqual(ask(("start", steps("11010")), ("way", t)), [[5], told(text)])

    def test_one_step(self):
        found = ask(("start", [1]), ("way", 0), ("way", 1), ("way", 2), ("way", 3), ("way", 4))
        self.assertEqual(found, [[1], [1, 1], [1, 0], [1, 1], [1, 0], [-22]])

    def test_begun_later_comes_ahead_of_backwards(self):
        # The other order would make 100010 and 000110.
        self.assertEqual(ask(("start", steps("100010")), ("way", 13)), [[6], told("101000")])
        self.assertEqual(ask(("start", steps("110000")), ("way", 13)), [[6], told("100001")])

    def test_same_steps_throughout(self):
        for count in range(1, 11):
            for t in range(4 * count):
                with self.subTest(count=count, t=t):
                    sign = "0" if (t // count) % 2 == 1 else "1"
                    self.assertEqual(ask(("start", [1] * count), ("way", t)), [[count], told(sign * count)])

    def test_every_way_of_every_word(self):
        for count in range(1, 11):
            for text in all_words(count):
                found = ask(("start", steps(text)), *[("way", t) for t in range(4 * count)])
                expected = [told(way_by_text(text, t)) for t in range(4 * count)]
                self.assertEqual(found[1:], expected, text)

    def test_no_such_way(self):
        for count in range(1, 11):
            text = "0" * (count - 1) + "1"
            for t in (4 * count, 4 * count + 1, 8 * count, 100, 2 ** 31, BIGGEST):
                with self.subTest(count=count, t=t):
                    self.assertEqual(ask(("start", steps(text)), ("way", t), ("way", 0)),
                                     [[count], [-22], told(text)])

    def test_the_last_way_there_is(self):
        for count in range(1, 11):
            text = "0" * (count - 1) + "1"
            with self.subTest(count):
                self.assertEqual(ask(("start", steps(text)), ("way", 4 * count - 1)),
                                 [[count], told(way_by_text(text, 4 * count - 1))])

    def test_the_word_stays(self):
        text = "0010110111"
        for t in (0, 1, 9, 10, 19, 20, 29, 30, 39, 40):
            with self.subTest(t):
                found = ask(("start", steps(text)), ("way", t), ("way", 0), ("turn", 0))
                self.assertEqual(found[2:], [told(text), told("1" + text[1:])])

    def test_it_is_of_the_word_as_it_is_now(self):
        self.assertEqual(ask(("start", steps("1101")), ("turn", 0), ("way", 4), ("later", 1), ("way", 4)),
                         [[4], told("0101"), told("1010"), told("1010"), told("0101")])


if __name__ == "__main__":
    unittest.main()
