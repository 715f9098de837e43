"""The one list that is handed in and the one that is given back; calls before a start."""

import unittest

import layerwords
from layerwords.steps import answers
from tests.lines import BIGGEST, NUMBERS, ask, line, steps, told

TOLD = {"later": (0,), "turn": (0,), "way": (0,), "nth": (0,), "which": ([0, 1],), "alike": ([0, 1],)}

EVERY_CALL = line(
    ("names",), ("start", [1, 1, 0]), ("later", 1), ("later", 3), ("opposite",), ("backwards",), ("over",),
    ("turn", 2), ("turn", 3), ("way", 7), ("way", 12), ("first",), ("names",), ("start", []), ("way", 0),
    ("nth", 2), ("nth", 6), ("which", [1, 0, 0]), ("which", [1, 1, 1]), ("which", [1, 2, 0]), ("leaves",), ("four",),
    ("alike", [1, 1, 0]), ("alike", [1, 0]), ("alike", []), ("handed",), ("again",), ("ups",), ("state",),
)


class WrittenByHand(unittest.TestCase):
    def test_numbers_of_the_calls_and_form_of_the_answers(self):
        calls = [0, 3, 1, 1, 0, 1, 1, 2, 3, 4, 5, 2, 6, 7, 7, 8]
        expected = [
            1, 3,            # start 110
            4, 3, 1, 0, 1,   # later 1: 101
            4, 3, 0, 1, 0,   # opposite: 010
            4, 3, 0, 1, 0,   # backwards: 010
            4, 3, 1, 0, 1,   # over: 101
            4, 3, 1, 0, 0,   # turn 2: 100
            4, 3, 1, 0, 0,   # way 7: begun 1 later 001, backwards 100
            4, 3, 0, 0, 1,   # first: 001
            1, 6,            # names: 001 010 100 110 101 011
        ]
        self.assertEqual(answers(calls), expected)

    def test_numbers_of_the_calls_that_only_tell(self):
        calls = [0, 3, 1, 1, 0, 9, 4, 10, 3, 0, 1, 1, 11, 12, 13, 3, 0, 1, 0, 14, 15, 16, 17]
        expected = [
            1, 3,            # start 110
            4, 3, 1, 0, 1,   # nth 4: 001 010 011 100, then 101
            1, 2,            # which 011
            3, 2, 0, 8,      # leaves: ways 0 and 8
            5, 4, 1, 0, 1, 0,  # four: way 0 is of the first kind, way 8 of the third
            1, 4,            # alike 010: begun 1 later 101, opposite 010
            1, 0,            # handed: way 8 is of the last two kinds
            1, 3,            # again
            2, 2, 1,         # ups: two up, one down
            4, 3, 1, 1, 0,   # state
        ]
        self.assertEqual(answers(calls), expected)

    def test_refusals_stand_alone(self):
        calls = [8, 0, 2, 0, 2, 0, 1, 1, 1, 1, 5, 1, 6, 4]
        self.assertEqual(answers(calls), [1, -11, 1, -22, 1, 1, 1, -22, 1, -2, 1, -22])
        calls = [0, 1, 1, 9, 2, 10, 0, 10, 2, 1, 1, 13, 1, 2, 13, 2, 1, 1, 17]
        self.assertEqual(answers(calls), [1, 1, 1, -2, 1, -22, 1, -33, 1, -22, 1, -33, 2, 1, 1])

    def test_one_call_alone(self):
        self.assertEqual(answers([0, 1, 0]), [1, 1])
        self.assertEqual(answers([0, 0]), [1, -22])
        self.assertEqual(answers([2]), [1, -11])

    def test_numbers_of_a_row_are_not_read_as_calls(self):
        self.assertEqual(answers([0, 3, 8, 7, 2, 0, 1, 1, 8]), [1, -22, 1, 1, 1, 2])
        self.assertEqual(answers([0, 1, 1, 10, 3, 17, 2, 0, 13, 2, 3, 4, 9, 17, 17]),
                         [1, 1, 1, -22, 1, -22, 1, -2, 2, 1, 1])


class BeforeAStart(unittest.TestCase):
    def test_every_other_call_is_refused(self):
        for name in NUMBERS:
            if name != "start":
                with self.subTest(name):
                    call = (name,) + TOLD.get(name, ())
                    self.assertEqual(ask(call, call), [[-11], [-11]])

    def test_refused_start_is_not_a_start(self):
        for name in NUMBERS:
            if name != "start":
                with self.subTest(name):
                    call = (name,) + TOLD.get(name, ())
                    self.assertEqual(ask(("start", [0, 2]), call, ("start", [1]), ("way", 0)),
                                     [[-22], [-11], [1], [1, 1]])

    def test_it_goes_ahead_of_what_else_is_refused(self):
        for name in ("later", "turn", "way", "nth"):
            with self.subTest(name):
                self.assertEqual(ask((name, BIGGEST)), [[-11]])
        for name in ("which", "alike"):
            with self.subTest(name):
                self.assertEqual(ask((name, []), (name, [7] * 60), ("names",)), [[-11]] * 3)


class HandedInAndGivenBack(unittest.TestCase):
    def test_list_handed_in_stays(self):
        calls = list(EVERY_CALL)
        answers(calls)
        self.assertEqual(calls, EVERY_CALL)

    def test_list_handed_in_is_never_changed_meanwhile(self):
        class Watched(list):
            def refuse(self, *args, **kwargs):
                raise AssertionError("the list handed in was changed")

            append = extend = insert = pop = remove = clear = sort = reverse = refuse
            __setitem__ = __delitem__ = __iadd__ = __imul__ = refuse

        self.assertEqual(answers(Watched(EVERY_CALL)), answers(EVERY_CALL))

    def test_second_time_answers_as_the_first(self):
        once = answers(EVERY_CALL)
        kept = list(once)
        once.append(5)
        self.assertEqual(answers(EVERY_CALL), kept)

    def test_no_word_is_kept_for_the_next_time(self):
        self.assertEqual(ask(("start", [1, 0]), ("names",)), [[2], [2]])
        self.assertEqual(ask(("names",)), [[-11]])

    def test_two_lines_do_not_change_one_another(self):
        other = line(("start", [0, 0, 1, 0, 1, 1, 1]), ("turn", 3), ("names",), ("leaves",), ("state",))
        alone = answers(EVERY_CALL), answers(other)
        for lines in ((EVERY_CALL, other), (other, EVERY_CALL)):
            found = [answers(calls) for calls in lines]
            self.assertEqual(found, [alone[0] if calls is EVERY_CALL else alone[1] for calls in lines])

    def test_whole_numbers_in_a_list(self):
        given = answers(EVERY_CALL)
        self.assertIs(type(given), list)
        for number in given:
            self.assertIs(type(number), int)

    def test_package_is_called_layerwords(self):
        self.assertEqual(layerwords.__name__, "layerwords")
        self.assertEqual(answers.__module__, "layerwords.steps")


class LongLines(unittest.TestCase):
    def test_longest_list(self):
        calls = line(*[("start", [BIGGEST] * 60)] * 200)
        self.assertEqual(len(calls), 12400)
        self.assertEqual(answers(calls), [1, -22] * 200)

    def test_two_hundred_calls_on_one_word(self):
        found = ask(("start", steps("0010110111")), *[("later", 1)] * 199)
        self.assertEqual(found[-1], told("1001011011"))
        self.assertEqual(found[-10], told("0010110111"))

    def test_two_hundred_calls_that_only_tell(self):
        for name in ("leaves", "four", "handed", "again", "ups", "state"):
            with self.subTest(name):
                found = ask(("start", steps("1010101010")), *[(name,)] * 199)
                self.assertEqual(found[1:], [found[1]] * 199)
                self.assertNotEqual(found[1][0], -11)


if __name__ == "__main__":
    unittest.main()
