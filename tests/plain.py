"""What the document says of words, done as plainly and slowly as it is told there.

Written apart from the program, to hold its answers against: words are tried one by one,
and the fewest states are the rank of the table of the worths of all words up to a length.
"""

import functools
import itertools

P = 2147483647


def worth(sample, word):
    """By all ways from state to state, from the word's end."""
    firsts, lasts, hands = sample
    rest = list(lasts)
    for a in reversed(word):
        rest = [sum(hands[a][i][j] * rest[j] for j in range(len(lasts))) % P for i in range(len(lasts))]
    return sum(x * y for x, y in zip(firsts, rest)) % P


def words(letters, longest):
    """All words, the first one first."""
    for length in range(longest + 1):
        yield from itertools.product(range(letters), repeat=length)


def added(one, other):
    m, n = len(one[0]), len(other[0])
    machine = zeros(m + n, len(one[2]))
    for part, shift in ((one, 0), (other, m)):
        for i in range(len(part[0])):
            machine[0][shift + i] = part[0][i]
            machine[1][shift + i] = part[1][i]
            for a in range(len(part[2])):
                for j in range(len(part[0])):
                    machine[2][a][shift + i][shift + j] = part[2][a][i][j]
    return machine


def multiplied(one, other):
    m, n = len(one[0]), len(other[0])
    machine = zeros(m * n, len(one[2]))
    for i, j in itertools.product(range(m), range(n)):
        machine[0][i * n + j] = one[0][i] * other[0][j] % P
        machine[1][i * n + j] = one[1][i] * other[1][j] % P
        for a, k, r in itertools.product(range(len(one[2])), range(m), range(n)):
            machine[2][a][i * n + j][k * n + r] = one[2][a][i][k] * other[2][a][j][r] % P
    return machine


def behind(one, other):
    m, n = len(one[0]), len(other[0])
    machine = added(one, other)
    for i in range(m):
        machine[1][i] = 0
    for j in range(n):
        machine[0][m + j] = other[0][j] * worth(one, ()) % P
    for a, i, j in itertools.product(range(len(one[2])), range(m), range(n)):
        machine[2][a][i][m + j] = sum(one[2][a][i][r] * one[1][r] for r in range(m)) * other[0][j] % P
    return machine


def turned(one, other):
    m = len(one[0])
    machine = zeros(m, len(one[2]))
    for i in range(m):
        machine[0][i], machine[1][i] = one[1][i], one[0][i]
        for a, j in itertools.product(range(len(one[2])), range(m)):
            machine[2][a][i][j] = one[2][a][j][i]
    return machine


MADE = (added, multiplied, behind, turned)


def zeros(states, letters):
    return [0] * states, [0] * states, [[[0] * states for i in range(states)] for a in range(letters)]


def first_apart(letters, one, other, longest):
    """one and other tell a word's worth; the first word up to that length where they differ, or None."""
    return next((word for word in words(letters, longest) if one(word) != other(word)), None)


def fewest(letters, tell, states):
    """The fewest states of a machine that tells these worths, if there's one of that many."""
    tried = list(words(letters, max(states - 1, 0)))
    return rank([[tell(word + rest) for rest in tried] for word in tried])


def rank(table):
    rows, found = [list(row) for row in table], 0
    for column in range(len(rows[0])):
        pivot = next((k for k in range(found, len(rows)) if rows[k][column]), None)
        if pivot is None:
            continue
        rows[found], rows[pivot] = rows[pivot], rows[found]
        scale = pow(rows[found][column], -1, P)
        for k in range(found + 1, len(rows)):
            times = rows[k][column] * scale % P
            if times:
                rows[k] = [(x - times * y) % P for x, y in zip(rows[k], rows[found])]
        found += 1
    return found


class Told:
    """A machine as nothing but its letters, its number of states and the worths that it tells."""

    def __init__(self, letters, states, tell):
        self.letters, self.states, self.tell = letters, states, functools.lru_cache(None)(tell)


def told_of_sample(sample):
    return Told(len(sample[2]), len(sample[0]), lambda word: worth(sample, word))


def told_of_two(kind, one, other):
    if kind == 0:
        return Told(one.letters, one.states + other.states, lambda word: (one.tell(word) + other.tell(word)) % P)
    if kind == 1:
        return Told(one.letters, one.states * other.states, lambda word: one.tell(word) * other.tell(word) % P)
    if kind == 2:
        return Told(one.letters, one.states + other.states,
                    lambda word: sum(one.tell(word[:k]) * other.tell(word[k:]) for k in range(len(word) + 1)) % P)
    return Told(one.letters, one.states, lambda word: one.tell(word[::-1]))


def told_least(one):
    return Told(one.letters, fewest(one.letters, one.tell, one.states), one.tell)
