"""The machine of the fewest states that is the same as another."""

from wordworths.kept import Machine
from wordworths.made import turned
from wordworths.reading import handed_on, worth_of_held
from wordworths.search import space_reached


def handed_within(machine, space, a):
    """What the letter a hands from each of the space's rows to each."""
    return [space.factors(handed_on(machine, row, a)) for row in space.rows]


def only_reached(machine):
    """The same machine, with a state for each row of the space that words reach."""
    space = space_reached(machine)
    lasts = [worth_of_held(machine, row) for row in space.rows]
    hands = [handed_within(machine, space, a) for a in range(machine.letters)]
    return Machine(space.factors(machine.firsts), lasts, hands)


def fewest(machine):
    # Turned, what's reached is what a word's rest can still make of the states; with
    # nothing more than is reached from both ends no machine that's the same has less.
    return turned(only_reached(turned(only_reached(machine))))
