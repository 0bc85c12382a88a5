"""The calls, and the walk through a list of them.

Each call is a function of the places and of the reader. It takes all its
numbers from the reader before it does anything else, so that the next call
is found behind a refused one too; and it answers a list of numbers.
"""

from wordworths.kept import Machine, Places, is_number, is_place

MOST_STATES = 32
MOST_LETTERS = 4
DONE = 0
REFUSED = -1


class Reader:
    """Goes through a list of calls, number by number, and leaves the list as it is."""

    def __init__(self, calls):
        self.calls = calls
        self.position = 0

    def at_end(self):
        return self.position == len(self.calls)

    def take(self):
        number = self.calls[self.position]
        self.position += 1
        return number


def begin(places, reader):
    places.make_empty()
    return [DONE]


def new(places, reader):
    slot = reader.take()
    states = reader.take()
    letters = reader.take()
    if not is_place(slot) or not 1 <= states <= MOST_STATES or not 1 <= letters <= MOST_LETTERS:
        return [REFUSED]
    places.put(slot, Machine(states, letters))
    return [DONE]


def machine_that_takes(places, slot, i, x):
    """The machine at that place, if it has the state i and can hold x; else None."""
    machine = places.machine_at(slot)
    if machine is None or not machine.has_state(i) or not is_number(x):
        return None
    return machine


def first(places, reader):
    slot = reader.take()
    i = reader.take()
    x = reader.take()
    machine = machine_that_takes(places, slot, i, x)
    if machine is None:
        return [REFUSED]
    machine.firsts[i] = x
    return [DONE]


def last(places, reader):
    slot = reader.take()
    i = reader.take()
    x = reader.take()
    machine = machine_that_takes(places, slot, i, x)
    if machine is None:
        return [REFUSED]
    machine.lasts[i] = x
    return [DONE]


def hand(places, reader):
    slot = reader.take()
    a = reader.take()
    i = reader.take()
    j = reader.take()
    x = reader.take()
    machine = machine_that_takes(places, slot, i, x)
    if machine is None or not machine.has_state(j) or not machine.has_letter(a):
        return [REFUSED]
    machine.hands[a][i][j] = x
    return [DONE]


# A call's number is where it stands here.
CALLS = (begin, new, first, last, hand)


def answers_at(places, calls):
    """The answers to the calls, which change what lies at the places."""
    reader = Reader(calls)
    answered = []
    while not reader.at_end():
        call = CALLS[reader.take()]
        answer = call(places, reader)
        answered.append(len(answer))
        answered.extend(answer)
    return answered


def answers(calls):
    return answers_at(Places(), calls)
