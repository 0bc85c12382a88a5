"""Lines of all the calls: what the document promises over the whole program."""

import contextlib
import io
import random
import sys
import unittest

from tests import plain
from tests.calls import (ADDED, APART, BEGIN, BEHIND, FIRST, HAND, LAST, LEAST, MAKE, MULTIPLIED, NEW, P, TURNED,
                         all_replies, built, chain, constant, flat, line, places_after, replies, reply, split, worth)
from wordworths.machines import answers

SAMPLE = [2, 3], [5, 7], [[[11, 13], [17, 19]], [[23, 29], [31, 37]]]

# Sixty calls, each of the nine among them, refused ones too.
SIXTY = [(BEGIN,), (BEGIN,)] + built(0, SAMPLE) + built(1, chain(3, 2, 1)) + [
    worth(0, ()), worth(0, (0, 1)), worth(1, (1, 1)), worth(0, (2,)), worth(9, (0, 0, 0)),
    (MAKE, ADDED, 0, 1, 2), (MAKE, MULTIPLIED, 0, 1, 3), (MAKE, BEHIND, 0, 1, 4), (MAKE, TURNED, 0, 1, 5),
    (MAKE, 4, 0, 1, 2), (MAKE, MULTIPLIED, 3, 3, 2), (APART, 0, 1, 5), (APART, 1, 1, 5), (APART, 2, 0, 2), (APART, 2, 0, 1),
    (APART, 2, 6, 1), (LEAST, 2, 6), (LEAST, 2, 8), (APART, 2, 6, 0), worth(6, (1, 1)), (LEAST, 3, 3), (LEAST, 4, 4),
    (APART, 3, 4, 9), (MAKE, ADDED, 6, 3, 7), worth(7, (1, 0) * 100), (MAKE, ADDED, 7, 7, 7), worth(7, (1, 0)),
    (NEW, 7, 8, 3), worth(7, (2,)), (APART, 7, 0, 1), (LEAST, 7, 7), (HAND, 5, 1, 1, 0, P - 1), worth(5, (1, 1)),
    (BEGIN,), worth(5, (1, 1)), (LEAST, 7, 7), (NEW, 7, 1, 1), (FIRST, 7, 0, P), (LAST, 7, 0, P - 1), worth(7, (0,)),
]


class Unchangeable(list):
    """A list that fails if it's changed, for a while too."""

    def refuse(self, *given):
        raise AssertionError("what is handed in was changed")

    append = extend = insert = remove = pop = clear = sort = reverse = refuse
    __setitem__ = __delitem__ = __iadd__ = __imul__ = refuse


class ALine(unittest.TestCase):
    def test_of_60_calls(self):
        self.assertEqual(len(SIXTY), 60)
        given = split(answers(flat(SIXTY)))
        self.assertEqual(len(given), 60)
        self.assertEqual(given[:20], [[0]] * 20)
        one, other = SAMPLE, chain(3, 2, 1)
        product, last = plain.multiplied(one, other), plain.added(plain.added(one, other), plain.multiplied(one, other))
        fewest = [plain.fewest(2, lambda word: plain.worth(made, word), len(made[0]))
                  for made in (product, plain.behind(one, other))]
        changed = plain.turned(one, other)
        changed[2][1][1][0] = P - 1
        self.assertEqual(given[20:], [
            [31], [plain.worth(one, (0, 1))], [1], [-1], [-1],
            [5], [6], [5], [2],
            [-1], [-2], [0], [-3], [2, 1, 1], [-2],
            [-1], [5], [-1], [-3], [(plain.worth(one, (1, 1)) + 1) % P],
            fewest[:1], fewest[1:], [2, 1, 1],
            [5 + fewest[0]], [plain.worth(last, (1, 0) * 100)], [10 + 2 * fewest[0]], [2 * plain.worth(last, (1, 0)) % P],
            [0], [0], [-1], [0], [0], [plain.worth(changed, (1, 1))],
            [0], [-1], [-1], [0], [-1], [0], [0]])

    def test_the_list_handed_in_is_the_same_afterwards(self):
        calls = flat(SIXTY)
        answers(calls)
        self.assertEqual(calls, flat(SIXTY))

    def test_nor_is_it_changed_for_a_while(self):
        self.assertEqual(answers(Unchangeable(flat(SIXTY))), answers(flat(SIXTY)))

    def test_the_same_list_twice_gives_the_same(self):
        calls = flat(SIXTY)
        given = answers(calls)
        self.assertEqual(answers(calls), given)
        kept = list(given)
        given.clear()
        self.assertEqual(answers(calls), kept)

    def test_nothing_is_kept_from_one_time_to_the_next(self):
        answers(line(built(0, SAMPLE) + [(LEAST, 0, 1), (MAKE, ADDED, 0, 1, 2), (APART, 0, 1, 5)]))
        for slot in range(8):
            self.assertEqual(replies(worth(slot, ()), (MAKE, TURNED, slot, slot, slot), (APART, slot, slot, 5),
                                     (LEAST, slot, slot)), [-1] * 4)

    def test_the_answers_are_whole_numbers_that_are_no_truth_values(self):
        given = answers(flat(SIXTY))
        self.assertIs(type(given), list)
        self.assertEqual({type(number) for number in given}, {int})

    def test_nothing_is_printed(self):
        out, err = io.StringIO(), io.StringIO()
        with contextlib.redirect_stdout(out), contextlib.redirect_stderr(err):
            answers(flat(SIXTY))
        self.assertEqual((out.getvalue(), err.getvalue()), ("", ""))

    def test_nothing_is_imported_when_it_is_called(self):
        before = set(sys.modules)
        answers(flat(SIXTY))
        self.assertEqual(set(sys.modules), before)

    def test_of_the_most_numbers(self):
        # 58 words of 200 letters; a line of them has fewer than the 13000 numbers of the longest list.
        calls = [(NEW, 0, 1, 1)] + [worth(0, [0] * 200)] * 58
        self.assertEqual(replies(*calls), [0] * 59)


class BeginAgain(unittest.TestCase):
    FILLED = built(0, SAMPLE) + built(1, constant(3, 2)) + [
        (MAKE, ADDED, 0, 1, 2), (MAKE, MULTIPLIED, 0, 1, 3), (MAKE, BEHIND, 0, 1, 4), (MAKE, TURNED, 0, 1, 5),
        (LEAST, 2, 6), (LEAST, 3, 7), (APART, 6, 7, 5), worth(6, (0, 1))]

    def test_the_places_are_empty(self):
        self.assertTrue(all(machine is not None for machine in places_after(*self.FILLED).machines))
        self.assertEqual(places_after(*self.FILLED, (BEGIN,)).machines, [None] * 8)
        self.assertEqual(replies(*self.FILLED, (BEGIN,), *[worth(slot, ()) for slot in range(8)])[-9:], [0] + [-1] * 8)
        self.assertEqual(replies(*self.FILLED, (BEGIN,), *[(LEAST, slot, slot) for slot in range(8)])[-8:], [-1] * 8)
        self.assertEqual(replies(*self.FILLED, (BEGIN,), *[(APART, slot, slot, 5) for slot in range(8)])[-8:], [-1] * 8)
        self.assertEqual(replies(*self.FILLED, (BEGIN,), *[(MAKE, 0, slot, slot, 0) for slot in range(8)])[-8:], [-1] * 8)

    def test_the_places_can_be_filled_again(self):
        self.assertEqual(reply(*self.FILLED, (BEGIN,), (NEW, 6, 2, 1), (FIRST, 6, 1, 3), (LAST, 6, 1, 4), worth(6, ())), [12])


class Model:
    """Answers calls as the document tells, for machines that are known by their worths alone."""

    def __init__(self):
        self.places = {}

    def make(self, kind, i, j, slot):
        one, other = self.places.get(i), self.places.get(j)
        if kind not in range(4) or slot not in range(8) or not one or not other or one.letters != other.letters:
            return [-1]
        made = plain.told_of_two(kind, one, other)
        if made.states > 32:
            return [-2]
        self.places[slot] = made
        return [made.states]

    def apart(self, i, j, room):
        one, other = self.places.get(i), self.places.get(j)
        if not one or not other or one.letters != other.letters:
            return [-1]
        word = plain.first_apart(one.letters, one.tell, other.tell, one.states + other.states - 1)
        if word is None:
            return [-3]
        return [len(word), *word] if len(word) <= (room if room in range(1, 65537) else 0) else [-2]

    def least(self, i, slot):
        if i not in self.places or slot not in range(8):
            return [-1]
        self.places[slot] = plain.told_least(self.places[i])
        return [self.places[slot].states]

    def worth(self, slot, length, *word):
        if slot not in self.places or any(a >= self.places[slot].letters for a in word):
            return [-1]
        return [self.places[slot].tell(word)]


class AgainstTheModel(unittest.TestCase):
    """Lines by chance, of the calls that come behind a few machines of few states."""

    CALLS = {5: Model.worth, MAKE: Model.make, APART: Model.apart, LEAST: Model.least}

    def sample(self, chance, letters):
        sample = plain.zeros(chance.randint(1, 3 if letters == 1 else 2), letters)
        for row in [sample[0], sample[1]] + [row for square in sample[2] for row in square]:
            row[:] = [chance.choice((0, 0, 1, 1, P - 1, chance.randrange(P))) for x in row]
        return sample

    def is_slow(self, model, call):
        """Whether the model would have to go through too many words."""
        if call[0] not in (APART, LEAST):
            return False
        asked = [model.places.get(slot) for slot in (call[1:3] if call[0] == APART else call[1:2])]
        states = sum(machine.states for machine in asked if machine)
        return any(machine and machine.letters > 1 for machine in asked) and states > (8 if call[0] == APART else 5)

    def call(self, chance):
        def place():
            return chance.choice((0, 1, 2, 3, 0, 1, 2, 3, 0, 1, 2, 3, 4, 7, 8, -1))

        number = chance.choice((5, MAKE, MAKE, APART, LEAST))
        if number == 5:
            return worth(place(), [chance.choice((0, 0, 0, 0, 0, 1, 1)) for k in range(chance.randrange(9))])
        if number == MAKE:
            return (MAKE, chance.choice((0, 0, 1, 1, 2, 2, 3, 3, 4)), place(), place(), place())
        if number == APART:
            return (APART, place(), place(), chance.choice((0, 1, 2, 5, 65536, 65536, 65537, -1)))
        return (LEAST, place(), place())

    def test_lines_by_chance(self):
        chance = random.Random(11)
        seen = set()
        for round_number in range(250):
            letters = chance.choice((1, 1, 2))
            samples = [self.sample(chance, letters) for slot in range(3)]
            calls = [call for slot, sample in enumerate(samples) for call in built(slot, sample)][:45]
            model = Model()
            self.fill(model, calls)
            begun, expected = len(calls), []
            while len(calls) < 59:
                call = self.call(chance)
                if not self.is_slow(model, call):
                    calls.append(call)
                    expected.append(self.CALLS[call[0]](model, *call[1:]))
                    seen.add((call[0], min(expected[-1][0], 0)))
            self.assertEqual(all_replies(*calls)[begun:], expected, calls)
        self.assertEqual(sorted(seen), [(5, -1), (5, 0), (MAKE, -2), (MAKE, -1), (MAKE, 0), (APART, -3), (APART, -2),
                                        (APART, -1), (APART, 0), (LEAST, -1), (LEAST, 0)])

    def fill(self, model, calls):
        samples = {}
        for number, slot, *rest in calls:
            if number == NEW:
                samples[slot] = plain.zeros(*rest)
            elif number == HAND:
                a, i, j, x = rest
                samples[slot][2][a][i][j] = x
            else:
                i, x = rest
                samples[slot][number - FIRST][i] = x
        for slot, sample in samples.items():
            model.places[slot] = plain.told_of_sample(sample)


if __name__ == "__main__":
    unittest.main()
