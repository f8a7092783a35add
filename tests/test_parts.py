"""[6.2]: machines whose product comes by a word to offer a set."""

import itertools
import random
import unittest

from spandrel.demand import anything, nothing, only
from spandrel.errors import BadDemand, BadLetters, BadSet, BadWord, TooMuch
from spandrel.hollow import with_word
from spandrel.joining import beside, parts
from spandrel.keeping import keeps
from spandrel.machine import check_machine, led, offers, product
from tests.demands import BAD_DEMANDS, GOOD_DEMANDS, SAMPLE, chain, every_set, wide
from tests.drawn import SMALL_MACHINES, drawn_pair, rewritten, sets_behind, sets_offered, words
from tests.samples import NO_NUMBERS, STILL, path, ring


class Case(unittest.TestCase):
    def of(self, a, b, word, bits, told):
        pair = parts(a, b, word, bits)
        if not told:
            self.assertIsNone(pair)
            return
        self.assertIs(type(pair), tuple)
        self.assertEqual(len(pair), 2)
        for machine, demand in zip(pair, (a, b)):
            self.assertIsNone(check_machine(machine))
            self.assertEqual(keeps(machine, demand)[0], "yes")
        # A word leads in the product to the pairs of what it leads to in both machines.
        offered = [sets_offered(machine, led(machine, word)) for machine in pair]
        self.assertIn(bits, [first & second for first, second in itertools.product(*offered)])


class Named(Case):
    def test_anything_and_nothing(self):
        for n in range(6):
            for bits in every_set(n):
                for word in ((), tuple(range(n)), tuple(range(n))[::-1] * 3, (0,) * (200 if n else 0)):
                    self.of(anything(n), anything(n), word, bits, True)
                    self.of(anything(n), nothing(n), word, bits, False)
                    self.of(nothing(n), anything(n), word, bits, False)
                    self.of(nothing(n), nothing(n), word, bits, False)

    def test_one_demand_that_no_machine_keeps(self):
        for size in (1, 2, 40):
            for word in ((), (0,), (0,) * 39, (0,) * 200):
                for bits in (0, 1):
                    self.of(chain(size), anything(1), word, bits, False)
                    self.of(only(ring(1)), chain(size), word, bits, False)

    def test_sets_that_come_out_of_two(self):
        a, b = (3, (((3, 6), (0, 0, 0)),)), (3, (((5, 6), (0, 0, 0)),))
        for word in ((), (0,), (2, 1, 0), (1,) * 200):
            for bits in every_set(3):
                self.of(a, b, word, bits, bits in (1, 2, 4, 6))

    def test_words_of_one_demand_alone(self):
        a, b = (2, (((1, 3), (0, 0)),)), (2, (((1,), (0, -1)),))
        for word, told in (((), True), ((0,), True), ((0, 0), True), ((1,), False), ((0, 1), False)):
            self.of(a, b, word, 1, told)
            self.of(b, a, word, 1, told)
            self.of(a, a, word, 3, True)

    def test_sets_that_fall(self):
        a = (2, (((0, 1, 2, 3), (1, 0)), ((), (-1, -1))))
        for word in ((), (1,), (1, 1)):
            for bits in every_set(2):
                self.of(a, anything(2), word, bits, bits in (0, 2))
        self.of(a, anything(2), (0,), 0, False)

    def test_the_longest_words(self):
        for left_out in (0, 1, 16, 31):
            a, b = wide(5, 40, left_out), wide(5, 39, 31 - left_out)
            for word in ((0,) * 200, (4,) * 200, (0, 1, 2, 3, 4) * 40):
                for bits in (0, 1, 7, 30, 31):
                    self.of(a, b, word, bits, bits != 31 or left_out not in (0, 31))
        strict = wide(5, 40, 31)[1][:-1] + (((30, 31), wide(5, 40, 31)[1][-1][1]),)
        every = (0, 1, 2, 14, 15, 16, 30)
        for length, told in ((38, every), (39, (14, 15, 16, 30, 31)), (40, every), (79, (14, 15, 16, 30, 31))):
            for bits in (0, 1, 2, 14, 15, 16, 30, 31):
                self.of((5, strict), (5, (((15, 16, 31), (0,) * 5),)), (0,) * length, bits, bits in told)
        self.of(only(path(40)), only(ring(40)), (0,) * 39, 0, True)
        self.of(only(path(40)), only(ring(40)), (0,) * 39, 1, False)
        self.of(only(path(40)), only(ring(40)), (0,) * 40, 0, False)
        self.of(only(ring(39)), only(ring(40)), (0,) * 200, 1, True)
        self.of(only(ring(39)), only(ring(40)), (0,) * 200, 0, False)

    def test_samples(self):
        for name, demand in GOOD_DEMANDS.items():
            with self.subTest(name):
                n = demand[0]
                for word in words(n, 1):
                    for bits in every_set(n)[:3] + every_set(n)[-1:]:
                        told = any(first & bits == bits for first in sets_behind(demand, word))
                        self.of(demand, anything(n), word, bits, told)
                        self.of(anything(n), demand, word, bits, told)


class Drawn(Case):
    def test_just_if_the_sets_are_accepted(self):
        numbers = random.Random(61)
        found = {True: 0, False: 0}
        for _ in range(60):
            n = numbers.randrange(4)
            a, b = drawn_pair(numbers, n, 3)
            for word in words(n, 3):
                for bits in every_set(n):
                    told = any(first & second == bits for first in sets_behind(a, word)
                               for second in sets_behind(b, word))
                    found[told] += 1
                    self.of(a, b, word, bits, told)
        self.assertGreater(min(found.values()), 300)

    def test_just_if_the_beside_has_a_machine_for_it(self):
        numbers = random.Random(62)
        found = {True: 0, False: 0}
        for _ in range(100):
            n = numbers.randrange(1, 4)
            a, b = drawn_pair(numbers, n, 3)
            demand = beside(a, b)
            for _ in range(20):
                word = tuple(numbers.randrange(n) for _ in range(numbers.randrange(4)))
                bits = numbers.randrange(2 ** n)
                told = with_word(demand, word, bits) is not None
                found[told] += 1
                self.of(rewritten(numbers, a), rewritten(numbers, b), word, bits, told)
        self.assertGreater(min(found.values()), 200)

    def test_small_machines_that_do_it(self):
        numbers = random.Random(63)
        found = {True: 0, False: 0}
        for _ in range(25):
            n = numbers.randrange(3)
            a, b = drawn_pair(numbers, n, 2)
            few = [[m for m in SMALL_MACHINES[n] if keeps(m, d)[0] == "yes"][:12] for d in (a, b)]
            done = set()
            for first, second in itertools.product(*few):
                both = product(first, second)
                done |= {(word, offers(both, state)) for word in words(n, 2) for state in led(both, word)}
            for word, bits in itertools.product(words(n, 2), every_set(n)):
                told = parts(a, b, word, bits)
                found[told is not None] += 1
                if (word, bits) in done:
                    self.of(a, b, word, bits, True)
                if told is not None:
                    self.of(a, b, word, bits, True)
                    try:
                        both = product(*told)
                    except TooMuch:
                        continue
                    self.assertIn(bits, [offers(both, state) for state in led(both, word)])
        self.assertGreater(min(found.values()), 30)


class Refused(unittest.TestCase):
    def test_the_demands_go_first(self):
        for name, thing in BAD_DEMANDS.items():
            with self.subTest(name):
                for other in (SAMPLE, nothing(0), thing):
                    self.assertRaises(BadDemand, parts, thing, other, (7,), 99)
                    self.assertRaises(BadDemand, parts, other, thing, (7,), 99)
        self.assertRaises(BadDemand, parts, STILL, anything(0), (), 0)

    def test_then_the_letters(self):
        for n, other in itertools.permutations(range(6), 2):
            for word, bits in (((), 0), ((7,), 99), (None, None)):
                self.assertRaises(BadLetters, parts, anything(n), anything(other), word, bits)
                self.assertRaises(BadLetters, parts, nothing(n), anything(other), word, bits)

    def test_then_the_word_then_the_set(self):
        for a, b in itertools.product((SAMPLE, anything(2), nothing(2)), repeat=2):
            for word in ((2,), (0, -1), (True,), (0, False), [0], "", None, (0,) * 201, ("a",), ((),), ((0,),)):
                for bits in (0, 3, 4, -1, None, True):
                    self.assertRaises(BadWord, parts, a, b, word, bits)
            for word in ((), (0,), (1, 1), (0,) * 200):
                for bits in NO_NUMBERS + (-1, 4, 5, 10 ** 30, [0]):
                    self.assertRaises(BadSet, parts, a, b, word, bits)

    def test_bounds_of_sets(self):
        for n in range(6):
            for bits in (2 ** n, -1, True, False):
                self.assertRaises(BadSet, parts, anything(n), anything(n), (), bits)
                self.assertRaises(BadSet, parts, nothing(n), anything(n), (), bits)


if __name__ == "__main__":
    unittest.main()
