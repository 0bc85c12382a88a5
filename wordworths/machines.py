"""The calls, and the walk through a list of them.

Each call is a function of the places and of the reader. It takes all its
numbers from the reader before it refuses or changes anything, so that the next
call is found behind a refused one too; and it answers a list of numbers.
"""

from wordworths.fewest import fewest
from wordworths.kept import Places, is_place, machine_of_zeros
from wordworths.made import is_kind, made_of_two, states_made
from wordworths.reading import is_word, worth_of
from wordworths.rows import is_number
from wordworths.search import first_word_apart

MOST_STATES = 32
MOST_LETTERS = 4
MOST_ROOM = 65536
DONE = 0
REFUSED = -1
TOO_MANY = -2
THE_SAME = -3


class Reader:
    """Goes through a list of calls, number by number, and leaves the list as it is."""

    def __init__(self, calls):
        self.calls = calls
        self.position = 0

    def at_end(self):
        return self.position == len(self.calls)

    def take(self):
        number = self.calls[self.position]
        self.position += 1
        return number

    def take_row(self):
        """The numbers of a row, which stand behind how many they are."""
        length = self.take()
        row = self.calls[self.position:self.position + length]
        self.position += length
        return row


def begin(places, reader):
    places.make_empty()
    return [DONE]


def new(places, reader):
    slot = reader.take()
    states = reader.take()
    letters = reader.take()
    if not is_place(slot) or not 1 <= states <= MOST_STATES or not 1 <= letters <= MOST_LETTERS:
        return [REFUSED]
    places.put(slot, machine_of_zeros(states, letters))
    return [DONE]


def machine_that_takes(places, slot, i, x):
    """The machine at that place, if it has the state i and can hold x; else None."""
    machine = places.machine_at(slot)
    if machine is None or not machine.has_state(i) or not is_number(x):
        return None
    return machine


def first(places, reader):
    slot = reader.take()
    i = reader.take()
    x = reader.take()
    machine = machine_that_takes(places, slot, i, x)
    if machine is None:
        return [REFUSED]
    machine.firsts[i] = x
    return [DONE]


def last(places, reader):
    slot = reader.take()
    i = reader.take()
    x = reader.take()
    machine = machine_that_takes(places, slot, i, x)
    if machine is None:
        return [REFUSED]
    machine.lasts[i] = x
    return [DONE]


def hand(places, reader):
    slot = reader.take()
    a = reader.take()
    i = reader.take()
    j = reader.take()
    x = reader.take()
    machine = machine_that_takes(places, slot, i, x)
    if machine is None or not machine.has_state(j) or not machine.has_letter(a):
        return [REFUSED]
    machine.hands[a][i][j] = x
    return [DONE]


def worth(places, reader):
    slot = reader.take()
    word = reader.take_row()
    machine = places.machine_at(slot)
    if machine is None or not is_word(machine, word):
        return [REFUSED]
    return [worth_of(machine, word)]


def are_comparable(one, other):
    """Whether both are machines, with as many letters."""
    return one is not None and other is not None and one.letters == other.letters


def make(places, reader):
    kind = reader.take()
    one = places.machine_at(reader.take())
    other = places.machine_at(reader.take())
    slot = reader.take()
    if not is_kind(kind) or not is_place(slot) or not are_comparable(one, other):
        return [REFUSED]
    if states_made(kind, one, other) > MOST_STATES:
        return [TOO_MANY]
    machine = made_of_two(kind, one, other)
    places.put(slot, machine)
    return [machine.states]


def most_letters_in(room):
    return room if 1 <= room <= MOST_ROOM else 0


def apart(places, reader):
    one = places.machine_at(reader.take())
    other = places.machine_at(reader.take())
    room = reader.take()
    if not are_comparable(one, other):
        return [REFUSED]
    word = first_word_apart(one, other)
    if word is None:
        return [THE_SAME]
    if len(word) > most_letters_in(room):
        return [TOO_MANY]
    return [len(word)] + word


def least(places, reader):
    machine = places.machine_at(reader.take())
    slot = reader.take()
    if machine is None or not is_place(slot):
        return [REFUSED]
    smallest = fewest(machine)
    places.put(slot, smallest)
    return [smallest.states]


# A call's number is where it stands here.
CALLS = (begin, new, first, last, hand, worth, make, apart, least)


def answers_at(places, calls):
    """The answers to the calls, which change what lies at the places."""
    reader = Reader(calls)
    answered = []
    while not reader.at_end():
        call = CALLS[reader.take()]
        answer = call(places, reader)
        answered.append(len(answer))
        answered.extend(answer)
    return answered


def answers(calls):
    return answers_at(Places(), calls)
