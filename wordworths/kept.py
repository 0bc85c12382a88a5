"""The machines, and the places that they lie at."""

PLACES = 8


def is_place(slot):
    return 0 <= slot < PLACES


def rows_of_zeros(height, width):
    return [[0] * width for row in range(height)]


class Machine:
    """hands[a][i][j] is what the letter a hands from the state i to the state j."""

    def __init__(self, firsts, lasts, hands):
        self.states = len(firsts)
        self.letters = len(hands)
        self.firsts = firsts
        self.lasts = lasts
        self.hands = hands

    def has_state(self, i):
        return 0 <= i < self.states

    def has_letter(self, a):
        return 0 <= a < self.letters


def machine_of_zeros(states, letters):
    hands = [rows_of_zeros(states, states) for letter in range(letters)]
    return Machine([0] * states, [0] * states, hands)


class Places:
    """The eight places, each with a machine or with None."""

    def __init__(self):
        self.machines = [None] * PLACES

    def make_empty(self):
        self.machines = [None] * PLACES

    def machine_at(self, slot):
        # Python would take a slot below 0 for a place counted from the end.
        if not is_place(slot):
            return None
        return self.machines[slot]

    def put(self, slot, machine):
        self.machines[slot] = machine
