"""[4.1]: hollow states and ladders."""

import itertools
import random
import time
import unittest

from spandrel.demand import anything, nothing, only
from spandrel.hollow import hollow, is_ladder, ladder
from spandrel.keeping import keeps
from spandrel.machine import offers
from tests.demands import GOOD_DEMANDS, SAMPLE, chain, every_set, mixed_demand, wide
from tests.samples import NO_NUMBERS, machines_of, ring


def begun_at(demand, state):
    """The demand that begins at another state: the two change their numbers."""
    number = list(range(len(demand[1])))
    number[0], number[state] = state, 0
    states = [(accepts, tuple(-1 if to == -1 else number[to] for to in ahead)) for accepts, ahead in demand[1]]
    states[0], states[state] = states[state], states[0]
    return (demand[0], tuple(states))


def falls(demand, state, bits, under):
    """Whether a set falls in a state under a list of states, in the words of the document."""
    return any((bits >> letter) & 1 and to in under for letter, to in enumerate(demand[1][state][1]))


def is_ladder_by_words(demand, states):
    for at, state in enumerate(states):
        if state not in range(len(demand[1])) or state in states[:at]:
            return False
        if not all(falls(demand, state, bits, states[:at]) for bits in demand[1][state][0]):
            return False
    return True


class Hollow(unittest.TestCase):
    def test_named_ones(self):
        for n in range(6):
            self.assertEqual(hollow(anything(n)), [])
            self.assertEqual(hollow(nothing(n)), [0])
        self.assertEqual(hollow(SAMPLE), [2])
        self.assertEqual(hollow(GOOD_DEMANDS["no letters, several states"]), [0, 2])

    def test_chains(self):
        for size in (1, 2, 3, 39, 40):
            self.assertEqual(hollow(chain(size)), list(range(size)))
            ends = (1, chain(size)[1][:-1] + (((0,), (-1,)),))
            self.assertEqual(hollow(ends), [])

    def test_chains_in_other_orders(self):
        numbers = random.Random(6)
        for _ in range(20):
            order = numbers.sample(range(40), 40)
            states = [((), (-1,))] * 40
            for at in range(39):
                states[order[at]] = ((1,), (order[at + 1],))
            self.assertEqual(hollow((1, tuple(states))), list(range(40)))
            self.assertEqual(set(ladder((1, tuple(states)))), set(range(40)))
            self.assertIs(is_ladder((1, tuple(states)), tuple(order[::-1])), True)
            self.assertIs(is_ladder((1, tuple(states)), tuple(order)), False)

    def test_one_set_that_stands_is_enough(self):
        self.assertEqual(hollow((2, (((0, 1), (1, 1)), ((), (-1, -1))))), [1])
        self.assertEqual(hollow((2, (((1,), (1, 1)), ((), (-1, -1))))), [0, 1])
        self.assertEqual(hollow((2, (((1, 2), (1, 0)), ((), (-1, -1))))), [1])
        self.assertEqual(hollow((2, (((1, 3), (1, 0)), ((), (-1, -1))))), [0, 1])

    def test_going_round_is_not_hollow(self):
        for size in (1, 2, 40):
            self.assertEqual(hollow(only(ring(size))), [])

    def test_letters_in_no_accepted_set_do_not_matter(self):
        self.assertEqual(hollow((2, (((0, 2), (1, 0)), ((), (0, 0))))), [1])

    def test_minus_one_is_not_the_last_state(self):
        self.assertEqual(hollow((2, (((2,), (-1, 0)), ((), (-1, -1))))), [1])
        self.assertIs(is_ladder((2, (((2,), (-1, 0)), ((), (-1, -1)))), (1, 0)), False)

    def test_nearly_all_sets(self):
        began = time.monotonic()
        for left_out in every_set(5):
            self.assertEqual(hollow(wide(5, 40, left_out)), [])
        without = tuple(bits for bits in every_set(5) if bits)
        states = tuple((without, (max(at - 1, 0),) * 5) for at in range(39)) + (((), (-1,) * 5),)
        self.assertEqual(hollow((5, states)), [39])
        down = tuple((without, (at + 1,) * 5) for at in range(39)) + (((), (-1,) * 5),)
        self.assertEqual(hollow((5, down)), list(range(40)))
        with_none = tuple((every_set(5), (at + 1,) * 5) for at in range(39)) + (((), (-1,) * 5),)
        self.assertEqual(hollow((5, with_none)), [39])
        self.assertLess(time.monotonic() - began, 20)

    def test_just_where_no_machine_keeps_it(self):
        machines = {n: machines_of(n, 2) for n in (0, 1)}
        # Of two letters those machines are enough that have one edge at most for each letter.
        machines[2] = [m for m in machines_of(2, 2) if all(len(dict(row)) == len(row) for row in m[1])]
        numbers = random.Random(7)
        found = {True: 0, False: 0}
        for _ in range(200):
            n = numbers.randrange(3)
            demand = mixed_demand(numbers, n, 2, numbers.randrange(10, 60))
            for state in range(2):
                begun = begun_at(demand, state)
                told = not any(keeps(m, begun)[0] == "yes" for m in machines[n])
                found[told] += 1
                self.assertIs(state in hollow(demand), told, demand)
        self.assertGreater(min(found.values()), 50)

    def test_told_lists_are_new(self):
        for demand in (chain(3), SAMPLE):
            first = hollow(demand)
            kept = list(first)
            first.append(7)
            self.assertIs(type(first), list)
            self.assertEqual(hollow(demand), kept)


class Ladders(unittest.TestCase):
    def test_of_all_hollow_states(self):
        for name, demand in GOOD_DEMANDS.items():
            with self.subTest(name):
                self.of_all(demand)

    def test_mixed_ones(self):
        numbers = random.Random(8)
        many = 0
        for _ in range(500):
            demand = mixed_demand(numbers, numbers.randrange(5), numbers.randrange(1, 12), numbers.randrange(5, 60))
            self.of_all(demand)
            many += len(ladder(demand)) > 2
        self.assertGreater(many, 100)

    def of_all(self, demand):
        states = ladder(demand)
        self.assertIs(type(states), tuple)
        self.assertEqual(sorted(states), hollow(demand))
        self.assertIs(is_ladder(demand, states), True)
        self.assertIs(is_ladder_by_words(demand, states), True)
        # No further state stands on this ladder.
        for state in range(len(demand[1])):
            self.assertIs(is_ladder(demand, states + (state,)), False)

    def test_the_empty_tuple(self):
        for demand in GOOD_DEMANDS.values():
            self.assertIs(is_ladder(demand, ()), True)
        self.assertEqual(ladder(anything(3)), ())

    def test_chains(self):
        for size in (1, 2, 3, 40):
            states = tuple(range(size))[::-1]
            self.assertEqual(ladder(chain(size)), states)
            for many in range(size + 1):
                self.assertIs(is_ladder(chain(size), states[:many]), True)
                self.assertIs(is_ladder(chain(size), states[many:]), many in (0, size))
            for at in range(size):
                self.assertIs(is_ladder(chain(size), states[:at] + states[at + 1:]), at == size - 1)
                self.assertIs(is_ladder(chain(size), states[:at] + states[at:at + 1] + states[at:]), False)
                self.assertIs(is_ladder(chain(size), states + states[at:at + 1]), False)
            for at in range(size - 1):
                exchanged = states[:at] + (states[at + 1], states[at]) + states[at + 2:]
                self.assertIs(is_ladder(chain(size), exchanged), False)

    def test_a_state_that_accepts_nothing_anywhere(self):
        demand = (1, (((1,), (1,)), ((), (-1,)), ((), (0,)), ((0,), (1,))))
        for states, told in (((1, 0, 2), True), ((1, 2, 0), True), ((2, 1, 0), True), ((2, 0, 1), False),
                             ((0, 1, 2), False), ((1, 1, 0), False), ((2, 2), False), ((1, 0, 3), False)):
            self.assertIs(is_ladder(demand, states), told)

    def test_all_tuples_of_small_ones(self):
        numbers = random.Random(9)
        found = {True: 0, False: 0}
        for _ in range(60):
            demand = mixed_demand(numbers, numbers.randrange(3), 3, 25)
            for length in range(4):
                for states in itertools.product(range(-1, 4), repeat=length):
                    told = is_ladder_by_words(demand, states)
                    found[told] += 1
                    self.assertIs(is_ladder(demand, states), told)
        self.assertGreater(min(found.values()), 100)

    def test_numbers_that_are_no_states(self):
        for thing in (3, -1, -2, 10 ** 30, -10 ** 30):
            self.assertIs(is_ladder(chain(3), (thing,)), False)
            for at in range(4):
                states = (2, 1, 0)[:at] + (thing,) + (2, 1, 0)[at:]
                self.assertIs(is_ladder(chain(3), states), False)

    def test_what_is_no_number(self):
        for thing in NO_NUMBERS:
            for at in range(4):
                states = (2, 1, 0)[:at] + (thing,) + (2, 1, 0)[at:]
                self.assertIs(is_ladder(chain(3), states), False)
        self.assertIs(is_ladder(nothing(2), (0,)), True)
        self.assertIs(is_ladder(nothing(2), (False,)), False)
        self.assertIs(is_ladder(chain(2), (True, 0)), False)

    def test_what_is_no_tuple(self):
        for thing in ("", "0", 0, None, True, False, [], [0]):
            self.assertIs(is_ladder(nothing(1), thing), False)

    def test_where_nothing_is_hollow(self):
        for state in range(3):
            self.assertIs(is_ladder(only(ring(3)), (state,)), False)

    def test_every_machine_is_held_off_by_a_ladder(self):
        demand = (2, (((1, 3), (1, 1)), ((2, 3), (2, 2)), ((), (-1, -1))))
        self.assertEqual(ladder(demand), (2, 1, 0))
        for machine in machines_of(2, 2):
            self.assertEqual(keeps(machine, demand)[0], "no")
            self.assertIn(offers(machine, 0), (0, 1, 2, 3))


if __name__ == "__main__":
    unittest.main()
