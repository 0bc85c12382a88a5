"""What the tests write lines of calls with, and sample machines to build by them.

A sample is (firsts, lasts, hands), with hands[a][i][j].
"""

from wordworths.kept import Places
from wordworths.machines import answers, answers_at

BEGIN, NEW, FIRST, LAST, HAND, WORTH, MAKE, APART, LEAST = range(9)
ADDED, MULTIPLIED, BEHIND, TURNED = range(4)
P = 2147483647
LOWEST = -2147483648
HIGHEST = 2147483647
HIGHEST_X = 4294967295
OTHER_PLACES = (-1, 8, -8, LOWEST, HIGHEST)


def flat(calls):
    return [number for call in calls for number in call]


def line(calls):
    """The calls with a begin ahead of them, no more than the document lets a line have."""
    if len(calls) > 59:
        raise AssertionError(f"{len(calls) + 1} calls")
    return flat([(BEGIN,)] + list(calls))


def split(given):
    """What each call answered, as a list."""
    parts, k = [], 0
    while k < len(given):
        parts.append(given[k + 1:k + 1 + given[k]])
        k += 1 + given[k]
    return parts


def all_replies(*calls):
    """The list that each call answers, with a begin ahead of them."""
    parts = split(answers(line(calls)))
    if len(parts) != len(calls) + 1 or not all(parts):
        raise AssertionError(parts)
    return parts[1:]


def replies(*calls):
    """The one number that each call answers, with a begin ahead of them."""
    parts = all_replies(*calls)
    if any(len(part) != 1 for part in parts):
        raise AssertionError(parts)
    return [part[0] for part in parts]


def reply(*calls):
    """The list that the last call answers."""
    return all_replies(*calls)[-1]


def places_after(*calls):
    places = Places()
    answers_at(places, line(calls))
    return places


def numbers_at(places, slot):
    """The machine there as a sample, or None."""
    machine = places.machine_at(slot)
    return None if machine is None else (machine.firsts, machine.lasts, machine.hands)


def built(slot, sample):
    """The calls that build the sample there."""
    firsts, lasts, hands = sample
    calls = [(NEW, slot, len(firsts), len(hands))]
    calls += [(FIRST, slot, i, x) for i, x in enumerate(firsts) if x]
    calls += [(LAST, slot, i, x) for i, x in enumerate(lasts) if x]
    calls += [(HAND, slot, a, i, j, x) for a, square in enumerate(hands) for i, row in enumerate(square)
              for j, x in enumerate(row) if x]
    return calls


def worth(slot, word):
    return (WORTH, slot, len(word), *word)


def worths(slot, words):
    return [worth(slot, word) for word in words]


def constant(x, letters):
    """One state: every word is worth x."""
    return [x], [1], [[[1]]] * letters


def diagonal(firsts, roots):
    """One letter; a word of k letters is worth the sum of the firsts times their roots to the power of k."""
    states = range(len(roots))
    return list(firsts), [1] * len(roots), [[[roots[i] if i == j else 0 for j in states] for i in states]]


def chain(states, letters=1, a=0):
    """Only the word of states-1 letters a is worth something, 1."""
    square = [[int(j == i + 1) for j in range(states)] for i in range(states)]
    nothing = [[0] * states] * states
    ends = [int(i == 0) for i in range(states)]
    return ends, ends[::-1], [square if b == a else nothing for b in range(letters)]


def nothing_at(slot, letters):
    """Leaves a machine of no states there."""
    return [(NEW, slot, 1, letters), (LEAST, slot, slot)]
