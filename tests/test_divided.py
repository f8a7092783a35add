"""[7.1] and [7.2]: the divided demand, and missing parts."""

import itertools
import random
import time
import unittest

from spandrel.demand import anything, check_demand, nothing, only
from spandrel.dividing import completes, divided, missing
from spandrel.errors import BadDemand, BadLetters, TooMuch
from spandrel.hollow import hollow, trimmed
from spandrel.joining import beside, either, meet
from spandrel.keeping import keeps
from spandrel.machine import check_machine, product
from spandrel.refining import equal, least, refines
from tests.demands import BAD_DEMANDS, GOOD_DEMANDS, SAMPLE, chain, every_set, mixed_demand, wide
from tests.drawn import SMALL_MACHINES, drawn_demand, drawn_machine, drawn_pair, keeper, letters_of, rewritten
from tests.drawn import loosened, sets_behind, words
from tests.samples import STILL, path, ring


def refined(s, t):
    return refines(s, t)[0] == "yes"


def marked(size, base, other):
    """A ring of two letters: state 0 accepts the other tuple of sets, the rest the base."""
    return (2, tuple((base if at else other, ((at + 1) % size,) * 2) for at in range(size)))


def completes_by_words(x, s, t, longest):
    """Whether x beside each machine that keeps s keeps t, as far as words of some length tell."""
    ways = [((0,), ())]
    for states, word in ways:
        wanted = sets_behind(t, word)
        for bits, state in itertools.product(sets_behind(s, word), states):
            offered = sum(2 ** letter for letter in {letter for letter, _ in x[1][state]})
            if bits & offered not in wanted:
                return False
        if len(word) < longest:
            given = set().union(*(letters_of(s[0], bits) for bits in sets_behind(s, word)))
            for letter in sorted(given):
                behind = {to for state in states for a, to in x[1][state] if a == letter}
                if behind:
                    ways.append((tuple(sorted(behind)), word + (letter,)))
    return True


class Case(unittest.TestCase):
    def of(self, t, s):
        """The divided demand, after a look at its form, and a missing part."""
        told = divided(t, s)
        self.assertIsNone(check_demand(told))
        self.assertEqual(told[0], t[0])
        self.assertEqual(trimmed(told), told)
        self.assertLessEqual(len(told[1]), len(t[1]) * len(s[1]) + 1)
        part = missing(t, s)
        if 0 in hollow(told):
            self.assertIsNone(part)
        else:
            self.assertIsNone(check_machine(part))
            self.assertEqual(keeps(part, told)[0], "yes")
            self.assertEqual(completes(part, s, t)[0], "yes")
        return told


class Named(Case):
    def test_by_what_no_machine_keeps(self):
        for name, demand in GOOD_DEMANDS.items():
            with self.subTest(name):
                n = demand[0]
                self.assertEqual(self.of(demand, nothing(n)), anything(n))
        for size in (1, 2, 40):
            for t in (nothing(1), chain(1), chain(40), only(path(3)), anything(1)):
                self.assertEqual(divided(t, chain(size)), anything(1))
                self.assertIsNone(check_machine(missing(t, chain(size))))

    def test_anything_divided(self):
        for name, demand in GOOD_DEMANDS.items():
            with self.subTest(name):
                self.assertEqual(self.of(anything(demand[0]), demand), anything(demand[0]))

    def test_nothing_divided(self):
        for name, demand in GOOD_DEMANDS.items():
            with self.subTest(name):
                n = demand[0]
                told = anything(n) if 0 in hollow(demand) else nothing(n)
                self.assertEqual(self.of(nothing(n), demand), told)
                self.assertEqual(missing(nothing(n), demand) is None, told == nothing(n))

    def test_by_a_machine_that_offers_all(self):
        for name, demand in GOOD_DEMANDS.items():
            with self.subTest(name):
                n = demand[0]
                full = (n, (((2 ** n - 1,), (0,) * n),))
                self.assertTrue(equal(self.of(demand, full), demand))

    def test_by_a_machine_that_offers_none(self):
        for n in range(1, 6):
            still = (n, (((0,), (-1,) * n),))
            self.assertEqual(self.of(still, still), anything(n))
            self.assertEqual(self.of((n, (((0, 1), (0,) * n),)), still), anything(n))
            self.assertEqual(self.of((n, (((1,), (0,) * n),)), still), nothing(n))

    def test_what_others_never_do_is_free(self):
        # s offers the letter 0 alone, and then both; t wants just that.
        s = (2, (((1,), (1, -1)), ((3,), (1, 1))))
        told = self.of(s, s)
        self.assertEqual(told, (2, (((1, 3), (1, 2)), ((3,), (1, 1)), ((0, 1, 2, 3), (2, 2)))))
        other = (2, (((0, 1),), ((0, 1), (1, 1))))
        for rows, answer in ((other[1], "yes"), ((((0, 1), (1, 2)), ((0, 1), (1, 1)), ()), "yes"),
                             ((((0, 1), (1, 2)), ((0, 1),), ()), "no"), ((((1, 0),),), "no")):
            self.assertEqual(keeps((2, rows), told)[0], answer)
            self.assertEqual(keeps(product((2, rows), other), s)[0], answer)

    def test_for_every_machine(self):
        # s may offer the letter or not; so what the whole offers is not settled, and t wants it settled.
        s, t = (1, (((0, 1), (0,)),)), (1, (((1,), (0,)),))
        self.assertEqual(self.of(t, s), nothing(1))
        self.assertEqual(self.of((1, (((0,), (-1,)),)), s), (1, (((0,), (-1,)),)))
        self.assertEqual(self.of(s, s), anything(1))

    def test_sets_of_the_part_are_fitted_to_all_sets(self):
        s = (3, (((3, 5), (0, 0, 0)),))
        t = (3, (((1, 2, 5), (0, 0, 0)),))
        fitting = tuple(bits for bits in every_set(3) if {bits & 3, bits & 5} <= {1, 2, 5})
        self.assertEqual(fitting, (1, 5))
        self.assertEqual(self.of(t, s)[1][0][0], fitting)

    def test_no_letters(self):
        for t, s in itertools.product((anything(0), nothing(0)), repeat=2):
            told = nothing(0) if (t, s) == (nothing(0), anything(0)) else anything(0)
            self.assertEqual(self.of(t, s), told)
            self.assertEqual(missing(t, s), None if told == nothing(0) else STILL)

    def test_five_letters(self):
        for left_out in (0, 1, 30, 31):
            t = (5, ((tuple(bits for bits in every_set(5) if bits != left_out), (0,) * 5),))
            for given in (0, 3, 21, 31):
                s = (5, (((given,), (0,) * 5),))
                told = self.of(t, s)
                self.assertEqual(told[1][0][0], tuple(bits for bits in every_set(5) if bits & given != left_out))


class Bounds(Case):
    # The part is free where the mark of s is, and behind the letter 1 there.
    T, S = ((1, 3), (1,)), ((3,), (1,))

    def test_40_states_at_most(self):
        numbers = random.Random(71)
        for many in range(1, 40):
            for also in range(1, 39 // many + 1):
                for n in (0, 1, 2, 5):
                    t, s = (mixed_demand(numbers, n, size, 75) for size in (many, also))
                    self.of(t, s)

    def test_just_40_states(self):
        for many, also in ((3, 13), (13, 3)):
            self.assertEqual(len(self.of(marked(many, *self.T), marked(also, *self.S))[1]), 40)

    def test_more_than_40_states_of_the_least_demand(self):
        for many, also in ((5, 8), (8, 5), (7, 6), (6, 7), (40, 39), (39, 40), (3, 40)):
            t, s = marked(many, *self.T), marked(also, *self.S)
            self.assertRaises(TooMuch, divided, t, s)
            self.assertRaises(TooMuch, missing, t, s)

    def test_many_states_in_other_writings(self):
        # The interface would allow TooMuch here; the least demands are small, and are told.
        numbers = random.Random(72)
        for _ in range(60):
            n = numbers.randrange(4)
            t, s = drawn_pair(numbers, n, 3)
            again = [rewritten(numbers, rewritten(numbers, d)) for d in (t, s)]
            self.assertEqual(self.of(*again), least(divided(t, s)))

    def test_the_largest_soon(self):
        began = time.monotonic()
        for left_out in (0, 1, 15, 30, 31):
            self.of(wide(5, 40, left_out), wide(5, 40, 31 - left_out))
            self.of(anything(5), wide(5, 40, left_out))
        numbers = random.Random(73)
        for _ in range(10):
            t, s = mixed_demand(numbers, 5, 40, 90), mixed_demand(numbers, 5, 40, 5)
            try:
                self.of(t, s)
            except TooMuch:
                pass
        self.assertLess(time.monotonic() - began, 30)


class Drawn(Case):
    def test_a_machine_keeps_it_exactly_if_it_completes(self):
        numbers = random.Random(74)
        found = {"yes": 0, "no": 0}
        for _ in range(500):
            n = numbers.randrange(1, 4)
            s, t = drawn_pair(numbers, n, 3)
            told = self.of(t, s)
            machines = [drawn_machine(numbers, n), keeper(numbers, told), keeper(numbers, t), keeper(numbers, s)]
            for x in machines:
                if x is not None:
                    answer = keeps(x, told)[0]
                    found[answer] += 1
                    self.assertEqual(completes(x, s, t)[0], answer)
                    self.assertEqual(completes_by_words(x, s, t, 4) or answer == "no", True)
                    if answer == "no":
                        self.assertIs(completes_by_words(x, s, t, 40 if n == 1 else 12), False)
        self.assertGreater(min(found.values()), 150)

    def test_beside_all_that_keep_s_it_keeps_t(self):
        numbers = random.Random(75)
        many = 0
        for _ in range(300):
            n = numbers.randrange(1, 4)
            s, t = drawn_pair(numbers, n, 3)
            x, m = keeper(numbers, divided(t, s), 3), keeper(numbers, s, 3)
            if x is not None and m is not None:
                many += 1
                self.assertEqual(keeps(product(x, m), t)[0], "yes")
                self.assertEqual(keeps(product(m, x), t)[0], "yes")
        self.assertGreater(many, 50)

    def test_all_small_machines(self):
        numbers = random.Random(76)
        found = {True: 0, False: 0}
        for _ in range(80):
            n = numbers.randrange(3)
            s, t = drawn_pair(numbers, n, 2)
            told = divided(t, s)
            few = [m for m in SMALL_MACHINES[n] if keeps(m, s)[0] == "yes"][::7]
            for x in SMALL_MACHINES[n][::9]:
                kept = keeps(x, told)[0] == "yes"
                found[kept] += 1
                if kept:
                    self.assertTrue(all(keeps(product(x, m), t)[0] == "yes" for m in few))
                else:
                    m = completes(x, s, t)[1]
                    self.assertEqual(keeps(m, s)[0], "yes")
                    self.assertEqual(keeps(product(x, m), t)[0], "no")
        self.assertGreater(min(found.values()), 40)

    def test_what_refines_it(self):
        numbers = random.Random(77)
        found = {True: 0, False: 0}
        for _ in range(400):
            n = numbers.randrange(4)
            s, t = drawn_pair(numbers, n, 3)
            told = self.of(t, s)
            fewer = drawn_demand(numbers, n, 2)
            for u in (told, fewer, s, t, meet(trimmed(told), fewer) if len(told[1]) < 10 else fewer,
                      loosened(numbers, told)):
                answer = refined(u, told)
                try:
                    whole = beside(u, s)
                except TooMuch:
                    continue
                found[answer] += 1
                self.assertIs(refined(whole, t), answer)
        self.assertGreater(min(found.values()), 200)

    def test_the_beside_of_it_and_s_refines_t(self):
        numbers = random.Random(78)
        for _ in range(200):
            n = numbers.randrange(4)
            s, t = drawn_pair(numbers, n, 2)
            self.assertTrue(refined(beside(divided(t, s), s), t))
            # Dividing what stands beside gives back at least the part.
            self.assertTrue(refined(t, divided(beside(t, s), s)))

    def test_other_writings(self):
        numbers = random.Random(79)
        for _ in range(150):
            n = numbers.randrange(5)
            s, t = drawn_pair(numbers, n, 3)
            told = divided(t, s)
            self.assertTrue(equal(told, divided(rewritten(numbers, t), least(s))))
            self.assertTrue(equal(told, divided(least(t), rewritten(numbers, s))))

    def test_more_is_asked_beside_more(self):
        numbers = random.Random(80)
        for _ in range(150):
            n = numbers.randrange(4)
            s, t = drawn_pair(numbers, n, 2)
            more = either(s, drawn_demand(numbers, n, 2))
            self.assertTrue(refined(divided(t, more), divided(t, s)))
            self.assertTrue(refined(divided(t, s), divided(loosened(numbers, t), s)))

    def test_missing_parts(self):
        numbers = random.Random(81)
        found = {True: 0, False: 0}
        for _ in range(600):
            n = numbers.randrange(3)
            s, t = drawn_pair(numbers, n, 2)
            part = missing(t, s)
            found[part is not None] += 1
            self.assertEqual(part is None, least(divided(t, s)) == nothing(n))
            if part is None:
                for x in SMALL_MACHINES[n][::11]:
                    self.assertEqual(completes(x, s, t)[0], "no")
        self.assertGreater(min(found.values()), 30)

    def test_words(self):
        numbers = random.Random(82)
        for _ in range(60):
            n = numbers.randrange(1, 3)
            s, t = drawn_pair(numbers, n, 3)
            told = divided(t, s)
            for word in words(n, 4):
                # What the part may offer makes, beside each set of s, one of the sets of t.
                for bits, other in itertools.product(sets_behind(told, word), sets_behind(s, word)):
                    self.assertIn(bits & other, sets_behind(t, word))


class Refused(unittest.TestCase):
    def test_what_is_no_demand(self):
        for function in (divided, missing):
            for name, thing in BAD_DEMANDS.items():
                with self.subTest(name, function=function.__name__):
                    for other in (SAMPLE, nothing(0), anything(5), thing, wide(5, 40, 3)):
                        self.assertRaises(BadDemand, function, thing, other)
                        self.assertRaises(BadDemand, function, other, thing)
            self.assertRaises(BadDemand, function, ring(2), anything(1))
            self.assertRaises(BadDemand, function, anything(1), ring(2))

    def test_unlike_letters(self):
        for function in (divided, missing):
            for n, other in itertools.permutations(range(6), 2):
                self.assertRaises(BadLetters, function, anything(n), anything(other))
                self.assertRaises(BadLetters, function, anything(n), nothing(other))
                self.assertRaises(BadLetters, function, wide(n, 40, 0), wide(other, 40, 0))


if __name__ == "__main__":
    unittest.main()
