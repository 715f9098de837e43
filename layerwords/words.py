"""Words of steps, and what the ways to hold them otherwise make of them.

A word is a list of steps, each 0 (down) or 1 (up). No function here changes the word it is given.
"""

MOST_STEPS = 10
KINDS_OF_WAYS = 4


def is_word(row):
    if len(row) < 1 or len(row) > MOST_STEPS:
        return False
    return all([step in (0, 1) for step in row])


def later(word, k):
    return word[k:] + word[:k]


def opposite(word):
    return [1 - step for step in word]


def backwards(word):
    return list(reversed(word))


def over(word):
    return opposite(backwards(word))


def turn(word, i):
    return word[:i] + [1 - word[i]] + word[i + 1:]


def number_of_ways(word):
    return KINDS_OF_WAYS * len(word)


def way(word, t):
    kind = t // len(word)
    made = later(word, t % len(word))
    if kind in (1, 3):
        made = opposite(made)
    if kind in (2, 3):
        made = backwards(made)
    return made


def names(word):
    """All names of the word, each once, in order, as tuples."""
    made = [tuple(way(word, t)) for t in range(number_of_ways(word))]
    # Tuples of one length are sorted by the first place at which they differ: that is the order of words.
    return sorted(set(made))


def ways_between(word, other):
    """The ways that make the other word of this one, rising; none make one of another length."""
    return [t for t in range(number_of_ways(word)) if way(word, t) == other]


def ways_that_leave(word):
    return ways_between(word, word)


def leaving_of_each_kind(word):
    """How many ways leave the word, of each kind in turn."""
    kinds = [t // len(word) for t in ways_that_leave(word)]
    return [kinds.count(kind) for kind in range(KINDS_OF_WAYS)]


def is_handed(word):
    counts = leaving_of_each_kind(word)
    return counts[2] == 0 and counts[3] == 0


def again(word):
    # Begun as many steps later as it has, every word is the same: so there always is one.
    return min([k for k in range(1, len(word) + 1) if later(word, k) == word])
