"""Lines of calls, written by name, for the tests."""

from layerwords.steps import answers

NUMBERS = {
    "start": 0, "later": 1, "opposite": 2, "backwards": 3, "over": 4, "turn": 5, "way": 6, "first": 7, "names": 8,
    "nth": 9, "which": 10, "leaves": 11, "four": 12, "alike": 13, "handed": 14, "again": 15, "ups": 16, "state": 17,
}

BIGGEST = 4294967295


def line(*calls):
    """One list of numbers: each call is a tuple of its name and, if it tells anything, a number or a list."""
    numbers = []
    for call in calls:
        numbers.append(NUMBERS[call[0]])
        for told in call[1:]:
            if isinstance(told, list):
                numbers.append(len(told))
                numbers.extend(told)
            else:
                numbers.append(told)
    return numbers


def split(given):
    """The answers one by one, each a list."""
    found = []
    at = 0
    while at < len(given):
        found.append(given[at + 1:at + 1 + given[at]])
        at += 1 + given[at]
    return found


def ask(*calls):
    """The answers to these calls, one by one."""
    found = split(answers(line(*calls)))
    if len(found) != len(calls):
        raise AssertionError(f"{len(calls)} calls had {len(found)} answers")
    return found


def about(text, *calls):
    """The answers to these calls on the word that a text writes, one by one, without start's."""
    return ask(("start", steps(text)), *calls)[1:]


def steps(text):
    """The word that a text of 0 and 1 writes."""
    return [int(sign) for sign in text]


def told(text):
    """How a word is told in an answer: how many steps, then they."""
    return [len(text)] + steps(text)


def all_words(count):
    """All words of so many steps, as texts, in order."""
    return [format(number, "b").zfill(count) for number in range(2 ** count)]


def way_by_text(text, t):
    """What way t makes of a word: said again over texts, apart from the program."""
    kind, begun = divmod(t, len(text))
    made = text[begun:] + text[:begun]
    if kind % 2 == 1:
        made = made.replace("0", "x").replace("1", "0").replace("x", "1")
    if kind >= 2:
        made = made[::-1]
    return made


def made_by_ways(text):
    """What the ways make of a word, way by way."""
    return [way_by_text(text, t) for t in range(4 * len(text))]
