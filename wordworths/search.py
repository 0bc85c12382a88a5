"""The search through what a machine can hold, and the first word that tells two machines apart."""

from wordworths.kept import Machine
from wordworths.made import added
from wordworths.reading import handed_on, worth_of_held
from wordworths.rows import Space, multiple


class Reached:
    """What the states of a machine hold behind words, the first word first.

    Passed over is each word behind which they hold a sum of multiples of what they hold
    behind earlier words, and with it all words that it begins: behind these, too, they
    hold such a sum. A sum of what's worth 0 is worth 0, so that the first word that isn't
    worth 0 is never passed over; and no more words are found than there are states.
    """

    def __init__(self, machine):
        self.machine = machine
        self.space = Space()
        self.words = []
        self.held = []
        self.look_at([], machine.firsts)

    def look_at(self, word, held):
        if self.space.grows_by(held):
            self.words.append(word)
            self.held.append(held)

    def go_on_from(self, k):
        """Looks at the words that have one letter more than the kth that was found."""
        for a in range(self.machine.letters):
            self.look_at(self.words[k] + [a], handed_on(self.machine, self.held[k], a))


def space_reached(machine):
    """All sums of multiples of what the states hold behind words."""
    reached = Reached(machine)
    k = 0
    while k < len(reached.words):
        reached.go_on_from(k)
        k += 1
    return reached.space


def first_word_worth_something(machine):
    """The first word that isn't worth 0, or None."""
    reached = Reached(machine)
    k = 0
    while k < len(reached.words):
        if worth_of_held(machine, reached.held[k]) != 0:
            return reached.words[k]
        reached.go_on_from(k)
        k += 1
    return None


def negative(machine):
    return Machine(machine.firsts, multiple(-1, machine.lasts), machine.hands)


def first_word_apart(one, other):
    """The first word that the two are different worth of, or None if they're the same."""
    return first_word_worth_something(added(one, negative(other)))
