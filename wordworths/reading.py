"""How a machine reads a word, and what the word is worth."""

from wordworths.rows import sum_of_multiples, sum_of_products

MOST_NUMBERS = 65536


def is_word(machine, word):
    return len(word) <= MOST_NUMBERS and all([machine.has_letter(a) for a in word])


def handed_on(machine, held, a):
    """What the states hold behind the letter a if they held that before it."""
    return sum_of_multiples(held, machine.hands[a], machine.states)


def worth_of_held(machine, held):
    return sum_of_products(held, machine.lasts)


def worth_of(machine, word):
    held = machine.firsts
    for a in word:
        held = handed_on(machine, held, a)
    return worth_of_held(machine, held)
