"""What is made of two machines with as many letters.

Each machine made here has rows of its own: what lay at the places stays as it is when
the new one's numbers are changed.
"""

from wordworths.kept import Machine, rows_of_zeros
from wordworths.reading import worth_of
from wordworths.rows import multiple, sum_of_products

ADDED = 0
MULTIPLIED = 1
BEHIND = 2
TURNED = 3


def is_kind(kind):
    return ADDED <= kind <= TURNED


def states_made(kind, one, other):
    if kind == MULTIPLIED:
        return one.states * other.states
    if kind == TURNED:
        return one.states
    return one.states + other.states


def side_by_side(square, bridge, other):
    """What is handed within the first's states, from these to the second's, and within the second's."""
    upper = [row + across for row, across in zip(square, bridge)]
    lower = [[0] * len(square) + row for row in other]
    return upper + lower


def added(one, other):
    nothing = rows_of_zeros(one.states, other.states)
    hands = [side_by_side(square, nothing, its) for square, its in zip(one.hands, other.hands)]
    return Machine(one.firsts + other.firsts, one.lasts + other.lasts, hands)


def products(row, other):
    """Each number of the one times each of the other, that of i and j the (i*n+j)th."""
    multiplied_row = []
    for x in row:
        multiplied_row.extend(multiple(x, other))
    return multiplied_row


def products_of_rows(rows, others):
    multiplied_rows = []
    for row in rows:
        multiplied_rows.extend([products(row, other) for other in others])
    return multiplied_rows


def multiplied(one, other):
    hands = [products_of_rows(square, its) for square, its in zip(one.hands, other.hands)]
    return Machine(products(one.firsts, other.firsts), products(one.lasts, other.lasts), hands)


def bridge_between(one, square, other):
    """What a letter hands from the first's states to the second's: where the first could end, the second begins."""
    ends = [sum_of_products(row, one.lasts) for row in square]
    return [multiple(x, other.firsts) for x in ends]


def one_behind_the_other(one, other):
    firsts = one.firsts + multiple(worth_of(one, []), other.firsts)
    lasts = [0] * one.states + other.lasts
    hands = [side_by_side(square, bridge_between(one, square, other), its)
             for square, its in zip(one.hands, other.hands)]
    return Machine(firsts, lasts, hands)


def column(square, j):
    return [row[j] for row in square]


def handed_back(square):
    return [column(square, j) for j in range(len(square))]


def turned(machine):
    hands = [handed_back(square) for square in machine.hands]
    return Machine(list(machine.lasts), list(machine.firsts), hands)


def made_of_two(kind, one, other):
    if kind == ADDED:
        return added(one, other)
    if kind == MULTIPLIED:
        return multiplied(one, other)
    if kind == BEHIND:
        return one_behind_the_other(one, other)
    return turned(one)
