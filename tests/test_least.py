"""[5.3]: the least demand, and when two demands are equal."""

import itertools
import random
import time
import unittest

from spandrel.demand import anything, check_demand, nothing, only
from spandrel.errors import BadDemand, BadLetters
from spandrel.hollow import trimmed
from spandrel.keeping import keeps
from spandrel.refining import equal, least, refines
from tests.demands import BAD_DEMANDS, GOOD_DEMANDS, SAMPLE, chain, every_set, mixed_demand, mixed_machine, wide
from tests.drawn import drawn_demand, drawn_pair, loosened, rewritten, tightened
from tests.samples import STILL, marked_ring, ring


def alike_states(d):
    """The pairs of states of a trimmed demand that accept the same sets and lead to alike ones."""
    states = d[1]
    pairs = {(p, q) for p in range(len(states)) for q in range(len(states)) if states[p][0] == states[q][0]}
    while True:
        fewer = {(p, q) for p, q in pairs
                 if all((x == y == -1) or (x, y) in pairs for x, y in zip(states[p][1], states[q][1]))}
        if fewer == pairs:
            return pairs
        pairs = fewer


def least_by_words(d):
    """The least demand, told in the words of the document."""
    cut = trimmed(d)
    pairs = alike_states(cut)
    name = [min(q for q in range(len(cut[1])) if (p, q) in pairs) for p in range(len(cut[1]))]
    order = [0]
    for at in order:
        for to in cut[1][at][1]:
            if to != -1 and name[to] not in order:
                order.append(name[to])
    return (d[0], tuple((cut[1][at][0], tuple(-1 if to == -1 else order.index(name[to]) for to in cut[1][at][1]))
                        for at in order))


class Least(unittest.TestCase):
    def whole(self, d):
        told = least(d)
        self.assertIsNone(check_demand(told))
        self.assertEqual(told, least_by_words(d))
        self.assertEqual(least(told), told)
        self.assertEqual(trimmed(told), told)
        self.assertEqual(alike_states(told), {(at, at) for at in range(len(told[1]))})
        self.assertEqual(least(trimmed(d)), told)
        return told

    def test_named_ones(self):
        for n in range(6):
            self.assertEqual(self.whole(anything(n)), anything(n))
            self.assertEqual(self.whole(nothing(n)), nothing(n))
        self.assertEqual(self.whole(SAMPLE), (2, SAMPLE[1][:2]))
        for size in (1, 2, 40):
            self.assertEqual(self.whole(chain(size)), nothing(1))

    def test_states_that_are_alike_are_one(self):
        for size in range(1, 41):
            self.assertEqual(self.whole(only(ring(size))), only(ring(1)))
            self.assertEqual(self.whole((2, ((every_set(2), ((size - 1) // 2, size - 1)),) * size)), anything(2))
        twice = (2, (((1, 3), (1, 2)), ((2,), (-1, 3)), ((2,), (-1, 0)), ((1, 3), (2, 1))))
        self.assertEqual(self.whole(twice), (2, (((1, 3), (1, 1)), ((2,), (-1, 0)))))

    def test_states_that_accept_the_same_and_lead_to_others_are_two(self):
        demand = (1, (((1,), (1,)), ((1,), (2,)), ((1,), (3,)), ((0,), (-1,))))
        self.assertEqual(self.whole(demand), demand)
        self.assertEqual(len(self.whole(only(marked_ring(40, (0,))))[1]), 40)
        self.assertEqual(len(self.whole(only(marked_ring(40, (0, 20))))[1]), 20)
        self.assertEqual(len(self.whole(only(marked_ring(40, (0, 21))))[1]), 40)

    def test_letters_in_no_set_are_left_out_of_sight(self):
        demand = (2, (((0, 1), (1, 0)), ((0, 1), (0, 1))))
        self.assertEqual(self.whole(demand), (2, (((0, 1), (0, -1)),)))

    def test_sets_that_fall_are_left_out_of_sight(self):
        demand = (2, (((1, 2), (1, 2)), ((1, 3), (0, 2)), ((), (-1, -1))))
        self.assertEqual(self.whole(demand), (2, (((1,), (0, -1)),)))

    def test_numbered_as_they_are_found(self):
        demand = (2, (((3,), (2, 1)), ((0,), (-1, -1)), ((1,), (3, -1)), ((0,), (-1, -1))))
        self.assertEqual(self.whole(demand), (2, (((3,), (1, 2)), ((1,), (2, -1)), ((0,), (-1, -1)))))

    def test_samples(self):
        for name, demand in GOOD_DEMANDS.items():
            with self.subTest(name):
                self.whole(demand)

    def test_drawn_ones(self):
        numbers = random.Random(31)
        merged = 0
        for _ in range(500):
            demand = drawn_demand(numbers, numbers.randrange(6), 8)
            merged += 1 < len(self.whole(demand)[1]) < len(trimmed(demand)[1])
            again = self.whole(rewritten(numbers, demand))
            self.assertEqual(again, least(demand))
        self.assertGreater(merged, 3)

    def test_the_same_machines_keep_it(self):
        numbers = random.Random(32)
        found = {"yes": 0, "no": 0}
        for _ in range(1500):
            n = numbers.randrange(1, 4)
            demand = mixed_demand(numbers, n, numbers.randrange(1, 5), numbers.randrange(30, 101))
            machine = mixed_machine(numbers, n, numbers.randrange(1, 5), numbers.randrange(8))
            told = keeps(machine, demand)[0]
            found[told] += 1
            self.assertEqual(keeps(machine, least(demand))[0], told)
        self.assertGreater(min(found.values()), 200)

    def test_the_largest_soon(self):
        began = time.monotonic()
        for left_out in every_set(5):
            told = least(wide(5, 40, left_out))
            self.assertEqual(told, wide(5, 1, left_out))
        self.assertLess(time.monotonic() - began, 20)


class Equal(unittest.TestCase):
    def told(self, s, t):
        told = equal(s, t)
        self.assertIs(type(told), bool)
        self.assertIs(equal(t, s), told)
        self.assertIs(least(s) == least(t), told)
        self.assertIs(refines(s, t)[0] == "yes" and refines(t, s)[0] == "yes", told)
        return told

    def test_named_ones(self):
        for n in range(6):
            self.assertIs(self.told(anything(n), anything(n)), True)
            self.assertIs(self.told(nothing(n), nothing(n)), True)
            self.assertIs(self.told(anything(n), nothing(n)), False)
        self.assertIs(self.told(chain(1), chain(40)), True)
        self.assertIs(self.told(only(ring(39)), only(ring(40))), True)
        self.assertIs(self.told(SAMPLE, trimmed(SAMPLE)), True)

    def test_other_writings(self):
        numbers = random.Random(33)
        for _ in range(300):
            n = numbers.randrange(6)
            demand = mixed_demand(numbers, n, numbers.randint(1, 18), numbers.randrange(20, 95))
            self.assertIs(self.told(demand, rewritten(numbers, demand)), True)
            self.assertIs(self.told(rewritten(numbers, demand), rewritten(numbers, demand)), True)

    def test_drawn_ones(self):
        numbers = random.Random(34)
        found = {True: 0, False: 0}
        for _ in range(600):
            found[self.told(*drawn_pair(numbers, numbers.randrange(4), 3))] += 1
        self.assertGreater(min(found.values()), 100)

    def test_sets_more_and_less(self):
        numbers = random.Random(35)
        found = {True: 0, False: 0}
        for _ in range(200):
            demand = drawn_demand(numbers, numbers.randrange(4))
            for change in (loosened, tightened):
                found[self.told(demand, change(numbers, demand))] += 1
        self.assertGreater(min(found.values()), 50)

    def test_one_refines_the_other_alone(self):
        less = (1, (((1,), (0,)),))
        self.assertIs(self.told(less, anything(1)), False)
        self.assertIs(self.told(less, nothing(1)), False)
        self.assertIs(self.told(less, (1, (((0,), (0,)),))), False)

    def test_a_difference_far_away(self):
        self.assertIs(self.told(only(marked_ring(40, (39,))), only(marked_ring(40, (38,)))), False)
        self.assertIs(self.told(only(marked_ring(40, (39,))), only(marked_ring(20, (19,)))), False)
        self.assertIs(self.told(only(marked_ring(40, (39, 19))), only(marked_ring(20, (19,)))), True)


class Refused(unittest.TestCase):
    def test_least(self):
        for name, thing in BAD_DEMANDS.items():
            with self.subTest(name):
                self.assertRaises(BadDemand, least, thing)
        self.assertRaises(BadDemand, least, STILL)

    def test_equal(self):
        for name, thing in BAD_DEMANDS.items():
            with self.subTest(name):
                for other in (SAMPLE, nothing(0), anything(5), thing):
                    self.assertRaises(BadDemand, equal, thing, other)
                    self.assertRaises(BadDemand, equal, other, thing)
        for n, other in itertools.permutations(range(6), 2):
            self.assertRaises(BadLetters, equal, anything(n), anything(other))
            self.assertRaises(BadLetters, equal, nothing(n), nothing(other))


if __name__ == "__main__":
    unittest.main()
