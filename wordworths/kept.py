"""The machines, and the places that they lie at."""

P = 2147483647
PLACES = 8


def is_number(x):
    return 0 <= x < P


def is_place(slot):
    return 0 <= slot < PLACES


def square_of_zeros(size):
    return [[0] * size for row in range(size)]


class Machine:
    """A machine all of whose numbers are 0 till they are changed.

    hands[a][i][j] is what the letter a hands from the state i to the state j.
    """

    def __init__(self, states, letters):
        self.states = states
        self.letters = letters
        self.firsts = [0] * states
        self.lasts = [0] * states
        self.hands = [square_of_zeros(states) for letter in range(letters)]

    def has_state(self, i):
        return 0 <= i < self.states

    def has_letter(self, a):
        return 0 <= a < self.letters


class Places:
    """The eight places, each with a machine or with None."""

    def __init__(self):
        self.machines = [None] * PLACES

    def make_empty(self):
        self.machines = [None] * PLACES

    def machine_at(self, slot):
        # Python would take a slot below 0 for a place counted from the end.
        if not is_place(slot):
            return None
        return self.machines[slot]

    def put(self, slot, machine):
        self.machines[slot] = machine
