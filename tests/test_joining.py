"""[6.1] and [6.2]: the meet, the either and the beside of two demands."""

import itertools
import random
import time
import unittest

from spandrel.demand import anything, check_demand, nothing, only
from spandrel.errors import BadDemand, BadLetters, TooMuch
from spandrel.hollow import hollow, trimmed
from spandrel.joining import beside, either, meet
from spandrel.keeping import keeps
from spandrel.machine import product
from spandrel.refining import equal, least, refines
from tests.demands import BAD_DEMANDS, GOOD_DEMANDS, SAMPLE, chain, every_set, mixed_demand, mixed_machine, wide
from tests.drawn import SMALL_MACHINES, drawn_demand, drawn_pair, keeper, rewritten, sets_behind, words
from tests.samples import STILL, path, ring

JOINTS = (meet, either, beside)


def refined(s, t):
    return refines(s, t)[0] == "yes"


def most_states(joint, a, b):
    many, also = len(a[1]), len(b[1])
    return many * also + many + also if joint is either else many * also


def sets_by_words(joint, a, b, word):
    """The sets to which the joint demand can come by a word; for the meet, those that may be fewer by hollow ones."""
    if joint is either:
        return sets_behind(a, word) | sets_behind(b, word)
    if joint is beside:
        return {bits & other for bits in sets_behind(a, word) for other in sets_behind(b, word)}
    return sets_behind(a, word) & sets_behind(b, word)


class Case(unittest.TestCase):
    def joined(self, joint, a, b):
        """The joint demand, after a look at its form."""
        told = joint(a, b)
        self.assertIsNone(check_demand(told))
        self.assertEqual(told[0], a[0])
        self.assertEqual(trimmed(told), told)
        self.assertLessEqual(len(told[1]), most_states(joint, a, b))
        return told

    def the_same(self, joint, a, b, other):
        self.assertTrue(equal(self.joined(joint, a, b), other))
        self.assertTrue(equal(self.joined(joint, b, a), other))


class Named(Case):
    def test_with_itself(self):
        for name, demand in GOOD_DEMANDS.items():
            with self.subTest(name):
                self.the_same(meet, demand, demand, demand)
                self.the_same(either, demand, demand, demand)

    def test_with_anything(self):
        for name, demand in GOOD_DEMANDS.items():
            with self.subTest(name):
                every = anything(demand[0])
                self.the_same(meet, demand, every, demand)
                self.the_same(either, demand, every, every)
                # Beside what may offer all letters or fewer, all subsets of what is offered may come out.
                less = self.joined(beside, demand, every)
                self.assertTrue(refined(demand, less))

    def test_with_nothing(self):
        for name, demand in GOOD_DEMANDS.items():
            with self.subTest(name):
                none = nothing(demand[0])
                for other in (none, (demand[0], none[1] * 40)):
                    self.the_same(meet, demand, other, none)
                    self.assertEqual(meet(demand, other), none)
                    self.assertEqual(beside(demand, other), none)
                    self.assertEqual(beside(other, demand), none)
                    self.the_same(either, demand, other, demand)

    def test_one_that_no_machine_keeps(self):
        for size in (1, 2, 40):
            for other in (only(ring(1)), anything(1), chain(1), nothing(1)):
                self.assertEqual(meet(chain(size), other), nothing(1))
                self.assertEqual(beside(chain(size), other), nothing(1))
                self.assertEqual(beside(other, chain(size)), nothing(1))
                self.the_same(either, chain(size), other, other)

    def test_a_meet_that_no_machine_keeps(self):
        self.assertEqual(meet(only(ring(3)), only(path(9))), nothing(1))
        self.assertEqual(meet(only(path(8)), only(path(9))), nothing(1))
        self.assertEqual(meet((1, (((0,), (0,)),)), (1, (((1,), (0,)),))), nothing(1))

    def test_sets_that_fall_in_the_meet_alone(self):
        # Behind the letter 0 the one offers {1} alone, the other {0} alone.
        a = (2, (((0, 1, 3), (1, 0)), ((2,), (-1, 0))))
        b = (2, (((0, 1, 2, 3), (1, 0)), ((1,), (0, -1))))
        self.assertEqual(meet(a, b), (2, (((0,), (-1, -1)),)))

    def test_the_either_is_kept_by_others_too(self):
        a = (1, (((1,), (1,)), ((0,), (-1,))))
        b = (1, (((0, 1), (1,)), ((1,), (1,))))
        both = either(a, b)
        self.assertEqual(both, (1, (((0, 1), (1,)), ((0, 1), (2,)), ((1,), (2,)))))
        # It may go on or end behind the first letter, whatever was offered at first.
        for machine, told in ((path(1), "yes"), (path(2), "yes"), (path(3), "no"), (ring(1), "yes"),
                              ((1, (((0, 1), (0, 2)), (), ((0, 2),))), "yes")):
            self.assertEqual(keeps(machine, both)[0], told)

    def test_a_word_of_one_demand_alone(self):
        a = (2, (((1,), (1, -1)), ((3,), (1, 1))))
        b = (2, (((2,), (-1, 1)), ((0,), (-1, -1))))
        self.assertEqual(either(a, b), (2, (((1, 2), (1, 2)), ((3,), (1, 1)), ((0,), (-1, -1)))))
        self.assertEqual(meet(a, b), nothing(2))
        self.assertEqual(beside(a, b), (2, (((0,), (-1, -1)),)))

    def test_beside(self):
        # Both do the letter 0; the one ends behind it, or goes on by 1.
        a = (2, (((1, 3), (1, 0)), ((0, 2), (-1, 0))))
        b = (2, (((1,), (1, -1)), ((2, 3), (0, 0))))
        self.assertEqual(beside(a, b), (2, (((1,), (1, -1)), ((0, 2), (-1, 0)))))
        self.assertEqual(beside(b, a), beside(a, b))

    def test_beside_of_anything(self):
        for n in range(6):
            self.assertTrue(equal(beside(anything(n), anything(n)), anything(n)))
            full = (n, (((2 ** n - 1,), (0,) * n),))
            for name, demand in GOOD_DEMANDS.items():
                if demand[0] == n:
                    with self.subTest(name):
                        self.the_same(beside, demand, full, demand)

    def test_no_letters(self):
        for a, b in itertools.product((anything(0), nothing(0)), repeat=2):
            kept = a == b == anything(0)
            self.assertEqual(meet(a, b), anything(0) if kept else nothing(0))
            self.assertEqual(beside(a, b), anything(0) if kept else nothing(0))
            self.assertEqual(either(a, b), anything(0) if anything(0) in (a, b) else nothing(0))

    def test_five_letters(self):
        a, b = (5, (((10, 21), (0,) * 5),)), (5, (((7, 21, 28), (0,) * 5),))
        self.assertEqual(meet(a, b), (5, (((21,), (0, -1, 0, -1, 0)),)))
        self.assertEqual(either(a, b)[1][0][0], (7, 10, 21, 28))
        self.assertEqual(beside(a, b)[1][0][0], (0, 2, 5, 8, 20, 21))


class Bounds(Case):
    def most(self, size):
        """A ring that accepts both sets where the other ring of its kind is strict."""
        return (1, tuple(((0, 1) if at == 0 else (1,), ((at + 1) % size,)) for at in range(size)))

    def test_products_of_at_most_40(self):
        numbers = random.Random(41)
        for many in range(1, 41):
            for also in range(1, 40 // many + 1):
                for n in (0, 1, 2, 5):
                    a, b = (mixed_demand(numbers, n, size, 70) for size in (many, also))
                    self.joined(meet, a, b)
                    self.joined(beside, a, b)
                    if many * also + many + also <= 40:
                        self.joined(either, a, b)

    def test_just_40_states(self):
        for many, also in ((5, 8), (8, 5), (1, 40), (40, 1)):
            a, b = [self.most(size) if size > 1 else only(ring(1)) for size in (many, also)]
            self.assertEqual(len(self.joined(beside, a, b)[1]), 40)
            self.assertEqual(len(self.joined(either, a, b)[1]), 40)
        wide_ring = [(1, tuple(((1,) if at else (0, 1), ((at + 1) % 8,)) for at in range(8))),
                     (1, tuple(((0, 1) if at else (1,), ((at + 1) % 5,)) for at in range(5)))]
        self.assertEqual(len(self.joined(meet, *wide_ring)[1]), 40)

    def test_more_than_40_states_of_the_least_demand(self):
        for many, also in ((6, 7), (7, 6), (3, 14), (2, 21), (39, 40), (40, 37), (11, 13)):
            a, b = self.most(many), self.most(also)
            self.assertRaises(TooMuch, beside, a, b)
            self.assertRaises(TooMuch, either, a, b)
            b = (1, tuple(((0, 1) if at else (1,), ((at + 1) % also,)) for at in range(also)))
            self.assertRaises(TooMuch, meet, a, b)

    def test_pairs_and_each_demand_alone(self):
        # The letters 0 and 1 go on in both, 2 in the one alone, 3 in the other alone: 30 + 5 + 6 states.
        a = (4, tuple(((7,) if at else (0, 7), ((at + 1) % 5,) * 3 + (-1,)) for at in range(5)))
        b = (4, tuple(((11,) if at else (0, 11), ((at + 1) % 6,) * 2 + (-1, (at + 1) % 6)) for at in range(6)))
        self.assertRaises(TooMuch, either, a, b)
        b = (4, tuple(((11,) if at else (0, 11), ((at + 1) % 4,) * 2 + (-1, (at + 1) % 4)) for at in range(4)))
        self.assertEqual(len(self.joined(either, a, b)[1]), 20 + 5 + 4)
        self.assertRaises(TooMuch, beside, self.most(6), self.most(7))

    def test_many_states_in_other_writings(self):
        # The interface would allow TooMuch here; the least demands are small, and are told.
        numbers = random.Random(42)
        for _ in range(30):
            n = numbers.randrange(1, 4)
            a, b = drawn_pair(numbers, n, 3)
            again = [rewritten(numbers, rewritten(numbers, d)) for d in (a, b)]
            for joint in JOINTS:
                self.assertEqual(joint(*again), least(joint(a, b)))

    def test_the_largest_soon(self):
        began = time.monotonic()
        numbers = random.Random(43)
        for left_out in (0, 1, 15, 30, 31):
            for joint in JOINTS:
                self.joined(joint, wide(5, 40, left_out), wide(5, 40, 31 - left_out))
        for _ in range(5):
            a, b = (mixed_demand(numbers, 5, 40, 60) for _ in range(2))
            for joint in JOINTS:
                self.assertRaises(TooMuch, joint, a, b)
        self.assertLess(time.monotonic() - began, 30)


class Drawn(Case):
    def test_the_meet_is_kept_by_just_the_machines_that_keep_both(self):
        numbers = random.Random(44)
        found = {True: 0, False: 0}
        for _ in range(1500):
            n = numbers.randrange(1, 4)
            a, b = drawn_pair(numbers, n, 3)
            both = self.joined(meet, a, b)
            machines = [mixed_machine(numbers, n, numbers.randrange(1, 5), numbers.randrange(8))]
            machines += [machine for machine in (keeper(numbers, d) for d in (a, b, both)) if machine is not None]
            for machine in machines:
                told = keeps(machine, a)[0] == keeps(machine, b)[0] == "yes"
                found[told] += 1
                self.assertIs(keeps(machine, both)[0] == "yes", told)
        self.assertGreater(min(found.values()), 300)

    def test_the_meet_and_all_small_machines(self):
        numbers = random.Random(45)
        for _ in range(60):
            n = numbers.randrange(3)
            a, b = drawn_pair(numbers, n, 2)
            both = meet(a, b)
            for machine in SMALL_MACHINES[n]:
                told = keeps(machine, a)[0] == keeps(machine, b)[0] == "yes"
                self.assertIs(keeps(machine, both)[0] == "yes", told)

    def test_what_refines_both_refines_the_meet(self):
        numbers = random.Random(46)
        found = {True: 0, False: 0}
        for _ in range(500):
            n = numbers.randrange(4)
            a, b = drawn_pair(numbers, n, 3)
            both = meet(a, b)
            self.assertTrue(refined(both, a) and refined(both, b))
            third = drawn_pair(numbers, n, 2)[0]
            try:
                others = (third, meet(third, a), meet(third, both))
            except TooMuch:
                continue
            for other in others:
                told = refined(other, a) and refined(other, b)
                found[told] += 1
                self.assertIs(refined(other, both), told)
        self.assertGreater(min(found.values()), 100)

    def test_the_either_refines_what_both_refine(self):
        numbers = random.Random(47)
        found = {True: 0, False: 0}
        for _ in range(500):
            n = numbers.randrange(4)
            a, b = drawn_pair(numbers, n, 2)
            one = self.joined(either, a, b)
            self.assertTrue(refined(a, one) and refined(b, one))
            third = drawn_pair(numbers, n, 2)[0]
            for other in (third, either(third, a), one, either(one, third) if len(one[1]) < 13 else one):
                told = refined(a, other) and refined(b, other)
                found[told] += 1
                self.assertIs(refined(one, other), told)
        self.assertGreater(min(found.values()), 100)

    def test_machines_that_keep_one_keep_the_either(self):
        numbers = random.Random(48)
        for _ in range(300):
            n = numbers.randrange(1, 4)
            a, b = drawn_pair(numbers, n, 3)
            for demand in (a, b):
                machine = keeper(numbers, demand, 3)
                if machine is not None:
                    self.assertEqual(keeps(machine, either(a, b))[0], "yes")
                    self.assertEqual(keeps(machine, either(b, a))[0], "yes")

    def test_all_products_keep_the_beside(self):
        numbers = random.Random(49)
        many = 0
        for _ in range(400):
            n = numbers.randrange(1, 4)
            a, b = drawn_pair(numbers, n, 3)
            demand = self.joined(beside, a, b)
            machines = [keeper(numbers, d, 3) for d in (a, b)]
            if None not in machines:
                many += 1
                self.assertEqual(keeps(product(*machines), demand)[0], "yes")
                self.assertEqual(keeps(product(*machines[::-1]), demand)[0], "yes")
            else:
                self.assertEqual(demand, nothing(n))
        self.assertGreater(many, 100)

    def test_the_beside_refines_what_all_products_keep(self):
        numbers = random.Random(50)
        found = {True: 0, False: 0}
        for _ in range(200):
            n = numbers.randrange(3)
            a, b = drawn_pair(numbers, n, 2)
            demand = beside(a, b)
            for other in (drawn_demand(numbers, n, 2), either(demand, drawn_demand(numbers, n, 2)),
                          beside(a, drawn_demand(numbers, n, 2))):
                told = all(sets_by_words(beside, a, b, word) <= sets_behind(other, word) for word in words(n, 6))
                found[told] += 1
                self.assertIs(refined(demand, other), told)
        self.assertGreater(min(found.values()), 60)

    def test_sets_behind_words(self):
        numbers = random.Random(51)
        for _ in range(80):
            n = numbers.randrange(4)
            a, b = drawn_pair(numbers, n, 3)
            for joint in JOINTS:
                demand = joint(a, b)
                for word in words(n, 5):
                    told = sets_behind(demand, word)
                    by_words = sets_by_words(joint, a, b, word)
                    if joint is meet:
                        self.assertLessEqual(told, by_words)
                    elif word:
                        # A word that is not done leads nowhere; words before it tell that it is not done.
                        self.assertLessEqual(told, by_words)
                        self.assertEqual(told, by_words if self.is_done(joint, a, b, word) else set())
                    else:
                        self.assertEqual(told, by_words)

    def is_done(self, joint, a, b, word):
        return all(any((bits >> word[at]) & 1 for bits in sets_by_words(joint, a, b, word[:at]))
                   for at in range(len(word)))

    def test_either_order_and_other_writings(self):
        numbers = random.Random(52)
        for _ in range(100):
            n = numbers.randrange(6)
            a, b = drawn_pair(numbers, n, 3)
            for joint in JOINTS:
                self.assertTrue(equal(joint(a, b), joint(b, a)))
                self.assertTrue(equal(joint(a, b), joint(rewritten(numbers, a), least(b))))

    def test_one_that_refines_the_other(self):
        numbers = random.Random(53)
        found = {True: 0, False: 0}
        for _ in range(300):
            a, b = drawn_pair(numbers, numbers.randrange(4), 3)
            told = refined(a, b)
            found[told] += 1
            self.assertIs(equal(meet(a, b), a), told)
            self.assertIs(equal(either(a, b), b), told)
        self.assertGreater(min(found.values()), 60)

    def test_hollow_first_states(self):
        numbers = random.Random(54)
        found = {True: 0, False: 0}
        for _ in range(200):
            n = numbers.randrange(3)
            a, b = (mixed_demand(numbers, n, 2, 25) for _ in range(2))
            hollow_ones = [0 in hollow(d) for d in (a, b)]
            found[any(hollow_ones)] += 1
            self.assertIs(beside(a, b) == nothing(n), any(hollow_ones))
            self.assertIs(either(a, b) == nothing(n), all(hollow_ones))
        self.assertGreater(min(found.values()), 20)


class Refused(unittest.TestCase):
    def test_what_is_no_demand(self):
        for joint in JOINTS:
            for name, thing in BAD_DEMANDS.items():
                with self.subTest(name, joint=joint.__name__):
                    for other in (SAMPLE, nothing(0), anything(5), thing, wide(5, 40, 3)):
                        self.assertRaises(BadDemand, joint, thing, other)
                        self.assertRaises(BadDemand, joint, other, thing)
            self.assertRaises(BadDemand, joint, STILL, anything(0))
            self.assertRaises(BadDemand, joint, anything(0), STILL)

    def test_unlike_letters(self):
        for joint in JOINTS:
            for n, other in itertools.permutations(range(6), 2):
                self.assertRaises(BadLetters, joint, anything(n), anything(other))
                self.assertRaises(BadLetters, joint, nothing(n), anything(other))
                self.assertRaises(BadLetters, joint, wide(n, 40, 0), wide(other, 40, 0))

    def test_sets_of_all_kinds(self):
        for n in range(3):
            for bits, other in itertools.product(every_set(n), repeat=2):
                a, b = (n, (((bits,), (0,) * n),)), (n, (((other,), (0,) * n),))
                self.assertEqual(meet(a, b)[1][0][0], (bits,) if bits == other else ())
                self.assertEqual(either(a, b)[1][0][0], tuple(sorted({bits, other})))
                self.assertEqual(beside(a, b)[1][0][0], (bits & other,))


if __name__ == "__main__":
    unittest.main()
