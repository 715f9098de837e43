"""What the document says holds of the whole program, over all words of 1 to 10 steps."""

import unittest

from tests.lines import about, all_words, made_by_ways, steps

LENGTHS = range(1, 11)


def text_of(answer):
    """The word that an answer tells, as a text."""
    return "".join(str(step) for step in answer[1:])


def names_of(text):
    names = about(text, ("names",))[0][0]
    return [text_of(answer) for answer in about(text, *[("nth", k) for k in range(names)])]


def layers(text):
    """The positions of the layers that a word's steps lead through, one of three each, from position 0 on."""
    positions = [0]
    for sign in text:
        positions.append((positions[-1] + (1 if sign == "1" else -1)) % 3)
    return positions


class A(unittest.TestCase):
    def test_names_times_ways_that_leave_it_are_all_ways(self):
        for count in LENGTHS:
            for text in all_words(count):
                names, leaves, four = about(text, ("names",), ("leaves",), ("four",))
                self.assertEqual(names[0] * leaves[0], 4 * count, text)
                self.assertEqual(sum(four[1:]), leaves[0], text)


class B(unittest.TestCase):
    def test_alike_are_just_those_with_one_first_name(self):
        for count in LENGTHS:
            groups = {}
            for text in all_words(count):
                first = about(text, ("first",))[0]
                groups.setdefault(text_of(first), []).append(text)
            for first, group in groups.items():
                self.assertEqual(group, sorted(set(made_by_ways(first))), first)
                self.assertEqual(group, names_of(first), first)
                self.assertEqual(group[0], first)

    def test_alike_is_answered_just_for_those_with_one_first_name(self):
        for count in range(1, 8):
            words = all_words(count)
            firsts = [about(text, ("first",))[0] for text in words]
            for text, first in zip(words, firsts):
                found = about(text, *[("alike", steps(other)) for other in words])
                self.assertEqual([answer != [-33] for answer in found], [other == first for other in firsts], text)

    def test_alike_ones_have_the_same_names_and_as_many_ways_leave_them(self):
        for count in LENGTHS:
            found = {}
            for text in all_words(count):
                first, leaves, handed, again = about(text, ("first",), ("leaves",), ("handed",), ("again",))
                about_it = (names_of(text), leaves[0], handed, again)
                self.assertEqual(found.setdefault(text_of(first), about_it), about_it, text)

    def test_alike_ones_close_alike(self):
        # A word closes if its last step leads back to the position of the first layer.
        for count in LENGTHS:
            closing = {}
            for text in all_words(count):
                first, ups = about(text, ("first",), ("ups",))
                closes = (ups[0] - ups[1]) % 3 == 0
                self.assertEqual(layers(text)[-1] == 0, closes, text)
                self.assertEqual(closing.setdefault(text_of(first), closes), closes, text)


class C(unittest.TestCase):
    def test_of_each_kind_as_many_as_of_the_first_or_none(self):
        for count in LENGTHS:
            for text in all_words(count):
                four = about(text, ("four",))[0]
                self.assertEqual(four[0], 4)
                self.assertGreater(four[1], 0)
                for many in four[1:]:
                    self.assertIn(many, (0, four[1]), text)


class D(unittest.TestCase):
    def test_turned_over_the_layers_are_read_from_the_other_side(self):
        for count in LENGTHS:
            for text in all_words(count):
                turned = layers(text_of(about(text, ("over",))[0]))
                other_side = layers(text)[::-1]
                self.assertEqual([(position + other_side[0]) % 3 for position in turned], other_side, text)

    def test_it_is_made_up_of_itself_behind_as_many_steps_as_again_tells(self):
        for count in LENGTHS:
            for text in all_words(count):
                again, four = about(text, ("again",), ("four",))
                part = text[:again[0]]
                self.assertEqual(part * (count // again[0]), text)
                self.assertEqual(four[1] * again[0], count, text)
                # No shorter part would do.
                for shorter in range(1, again[0]):
                    self.assertNotEqual((text * 2)[shorter:shorter + count], text)


if __name__ == "__main__":
    unittest.main()
