"""The calls on one object: read from one list, answered in one list."""

from layerwords.words import again, backwards, is_handed, is_word, later, leaving_of_each_kind, names
from layerwords.words import number_of_ways, opposite, over, turn, way, ways_between, ways_that_leave

NO_SUCH = -2
NO_WORD = -11
NOT_AS_TOLD = -22
NOT_ALIKE = -33

CALLS_WITH_A_NUMBER = (1, 5, 6, 9)
CALLS_WITH_A_ROW = (0, 10, 13)


class Held:
    """The object of one line: it has no word until a start that isn't refused."""

    def __init__(self):
        self.word = None


def tell(row):
    """How steps, or ways, are told: how many there are stands first."""
    return [len(row)] + row


def change(held, word):
    held.word = word
    return tell(word)


# The answers to the calls all take the same two values, so that they can be looked up by the call's number:
# the object, and the numbers that the call tells (none, one, or the row's).


def answer_start(held, told):
    if not is_word(told):
        return [NOT_AS_TOLD]
    held.word = list(told)
    return [len(told)]


def answer_later(held, told):
    if told[0] >= len(held.word):
        return [NOT_AS_TOLD]
    return change(held, later(held.word, told[0]))


def answer_opposite(held, told):
    return change(held, opposite(held.word))


def answer_backwards(held, told):
    return change(held, backwards(held.word))


def answer_over(held, told):
    return change(held, over(held.word))


def answer_turn(held, told):
    if told[0] >= len(held.word):
        return [NO_SUCH]
    return change(held, turn(held.word, told[0]))


def answer_way(held, told):
    if told[0] >= number_of_ways(held.word):
        return [NOT_AS_TOLD]
    return tell(way(held.word, told[0]))


def answer_first(held, told):
    return tell(list(names(held.word)[0]))


def answer_names(held, told):
    return [len(names(held.word))]


def answer_nth(held, told):
    found = names(held.word)
    if told[0] >= len(found):
        return [NO_SUCH]
    return tell(list(found[told[0]]))


def answer_which(held, told):
    if not is_word(told):
        return [NOT_AS_TOLD]
    found = names(held.word)
    if tuple(told) not in found:
        return [NOT_ALIKE]
    return [found.index(tuple(told))]


def answer_leaves(held, told):
    return tell(ways_that_leave(held.word))


def answer_four(held, told):
    return tell(leaving_of_each_kind(held.word))


def answer_alike(held, told):
    if not is_word(told):
        return [NOT_AS_TOLD]
    found = ways_between(held.word, told)
    if len(found) == 0:
        return [NOT_ALIKE]
    return [found[0]]


def answer_handed(held, told):
    return [1 if is_handed(held.word) else 0]


def answer_again(held, told):
    return [again(held.word)]


def answer_ups(held, told):
    return [held.word.count(1), held.word.count(0)]


def answer_state(held, told):
    return tell(held.word)


ANSWERED_BY = {
    0: answer_start,
    1: answer_later,
    2: answer_opposite,
    3: answer_backwards,
    4: answer_over,
    5: answer_turn,
    6: answer_way,
    7: answer_first,
    8: answer_names,
    9: answer_nth,
    10: answer_which,
    11: answer_leaves,
    12: answer_four,
    13: answer_alike,
    14: answer_handed,
    15: answer_again,
    16: answer_ups,
    17: answer_state,
}


def answer_call(held, call, told):
    if held.word is None and call != 0:
        return [NO_WORD]
    return ANSWERED_BY[call](held, told)


def told_from(calls, at):
    """Where the told numbers begin, of the call that begins at this place."""
    return at + 2 if calls[at] in CALLS_WITH_A_ROW else at + 1


def call_end(calls, at):
    """Where the call that begins at this place ends."""
    if calls[at] in CALLS_WITH_A_ROW:
        return at + 2 + calls[at + 1]
    if calls[at] in CALLS_WITH_A_NUMBER:
        return at + 2
    return at + 1


def answers(calls):
    """The answers to a line of calls on a new object: for each, how many numbers, then these."""
    held = Held()
    given = []
    at = 0
    while at < len(calls):
        end = call_end(calls, at)
        answer = answer_call(held, calls[at], calls[told_from(calls, at):end])
        given.append(len(answer))
        given.extend(answer)
        at = end
    return given
