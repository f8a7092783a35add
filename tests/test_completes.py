"""[7.3]: whether a machine completes one demand to another, and the papers that settle it."""

import itertools
import math
import random
import time
import unittest

from spandrel.demand import anything, led_to, nothing, only
from spandrel.dividing import accepts, completes, divided
from spandrel.errors import BadDemand, BadLetters, BadMachine, TooMuch
from spandrel.hollow import hollow, is_ladder, ladder
from spandrel.keeping import keeps
from spandrel.machine import check_machine, product
from tests.demands import BAD_DEMANDS, GOOD_DEMANDS, SAMPLE, chain, every_set, mixed_demand, mixed_machine, wide
from tests.drawn import SMALL_MACHINES, drawn_machine, drawn_pair, keeper, letters_of, rewritten, sets_offered, words
from tests.samples import BAD_MACHINES, NO_NUMBERS, STILL, fan, marked_ring, path, ring, with_edges


def lane(size, base, mark, other):
    """A ring of two letters: the marked state accepts the other tuple of sets, the rest the base."""
    return (2, tuple((other if at == mark else base, ((at + 1) % size,) * 2) for at in range(size)))


def far_case(sizes, marks):
    """A machine, s and t: there is a fault just where the three marks meet."""
    x = marked_ring(sizes[0], (marks[0],))
    return x, lane(sizes[1], (1,), marks[1], (1, 3)), lane(sizes[2], (1, 3), marks[2], (1,))


def meeting(sizes, marks):
    for at in range(marks[0], math.lcm(*sizes), sizes[0]):
        if all(at % size == mark for size, mark in zip(sizes, marks)):
            return at
    return None


def triples_by_words(x, s, t, under, triples):
    """Whether a ladder and triples are a paper, in the words of the document."""
    if not is_ladder(s, under) or not ((0, 0, 0) in triples or 0 in under):
        return False
    among = set(triples)
    for p, q, r in among:
        if r in under:
            return False
        for bits in s[1][r][0]:
            letters = letters_of(s[0], bits)
            if any(s[1][r][1][a] in under for a in letters):
                continue
            both = [a for a in letters if a in {letter for letter, _ in x[1][p]}]
            if sum(2 ** a for a in both) not in t[1][q][0]:
                return False
            if any((z, t[1][q][1][a], s[1][r][1][a]) not in among for a, z in x[1][p] if a in both):
                return False
    return True


def pairs_behind(x, m, word):
    """The states of the product to which a word leads, step by step."""
    pairs = {(0, 0)}
    for letter in word:
        pairs = {(y, z) for p, q in pairs for a, y in x[1][p] if a == letter for b, z in m[1][q] if b == letter}
    return pairs


def is_fault_by_words(x, m, t, word):
    at = led_to(t, word)
    offered = [{letter for letter, _ in x[1][p]} & {letter for letter, _ in m[1][q]}
               for p, q in pairs_behind(x, m, word)]
    return at != -1 and any(sum(2 ** letter for letter in letters) not in t[1][at][0] for letters in offered)


class Case(unittest.TestCase):
    def settled(self, x, s, t):
        """The answer, after a look at its paper."""
        paper = completes(x, s, t)
        self.assertIs(type(paper), tuple)
        self.assertEqual(len(paper), 3)
        if paper[0] == "yes":
            self.assertIs(triples_by_words(x, s, t, paper[1], paper[2]), True)
        else:
            self.assertEqual(paper[0], "no")
            self.assertIsNone(check_machine(paper[1]))
            self.assertEqual(keeps(paper[1], s)[0], "yes")
            sets = [sets_offered(machine, led_long(machine, paper[2])) for machine in (x, paper[1])]
            at = led_long_demand(t, paper[2])
            self.assertNotEqual(at, -1)
            self.assertFalse({first & second for first, second in itertools.product(*sets)} <= set(t[1][at][0]))
        self.assertIs(accepts(x, s, t, paper), True)
        return paper[0]


def led_long(machine, word):
    """The states to which a word of any length leads."""
    states = {0}
    for letter in word:
        states = {to for state in states for a, to in machine[1][state] if a == letter}
    return states


def led_long_demand(d, word):
    at = 0
    for letter in word:
        at = -1 if at == -1 else d[1][at][1][letter]
    return at


class Completes(Case):
    def test_named_ones(self):
        for n in range(6):
            still = (n, ((),))
            full = (n, (tuple((letter, 0) for letter in range(n)),))
            for x in (still, full):
                self.assertEqual(self.settled(x, anything(n), anything(n)), "yes")
                self.assertEqual(self.settled(x, nothing(n), nothing(n)), "yes")
                self.assertEqual(self.settled(x, anything(n), nothing(n)), "no")
                self.assertEqual(self.settled(x, nothing(n), anything(n)), "yes")
            self.assertEqual(self.settled(still, anything(n), (n, (((0,), (-1,) * n),))), "yes")
            self.assertEqual(self.settled(full, anything(n), (n, (((0,), (-1,) * n),))), "no" if n else "yes")

    def test_the_machine_that_offers_all(self):
        for name, demand in GOOD_DEMANDS.items():
            with self.subTest(name):
                n = demand[0]
                full = (n, (tuple((letter, 0) for letter in range(n)),))
                self.assertEqual(self.settled(full, demand, demand), "yes")
                told = "yes" if 0 in hollow(demand) else "no"
                self.assertEqual(self.settled(full, demand, nothing(n)), told)

    def test_a_hollow_first_state(self):
        for size in (1, 2, 40):
            for t in (nothing(1), anything(1), chain(5)):
                for x in (ring(1), path(2), ring(400)):
                    self.assertEqual(self.settled(x, chain(size), t), "yes")
                    self.assertIn(0, completes(x, chain(size), t)[1])

    def test_the_order_of_the_three(self):
        s, t = (2, (((3,), (0, 0)),)), (2, (((1,), (0, -1)),))
        x = (2, (((0, 0),),))
        self.assertEqual(self.settled(x, s, t), "yes")
        self.assertEqual(self.settled(x, t, s), "no")
        self.assertEqual(completes(path(2), (1, (((1,), (1,)), ((1,), (2,)), ((0, 1), (1,)))),
                                   (1, (((1,), (1,)), ((0,), (-1,))))),
                         ("yes", (), ((0, 0, 0), (1, 1, 1))))

    def test_sets_that_fall_do_not_matter(self):
        s = (2, (((1, 2, 3), (1, 0)), ((), (-1, -1))))
        t = (2, (((0, 2), (-1, 0)),))
        for row, told in (((), "yes"), (((1, 0),), "yes"), (((0, 0),), "no"), (((0, 0), (1, 0)), "no")):
            self.assertEqual(self.settled((2, (row,)), s, t), "yes")
            self.assertEqual(completes((2, (row,)), s, t)[1], (1,))
            self.assertEqual(self.settled((2, (row,)), (2, (((1, 2), (0, 0)),)), t), told)

    def test_several_edges_of_one_letter(self):
        x = (1, (((0, 1), (0, 2)), (), ((0, 2),)))
        self.assertEqual(self.settled(x, anything(1), anything(1)), "yes")
        self.assertEqual(self.settled(x, (1, (((1,), (0,)),)), (1, (((1,), (1,)), ((0, 1), (1,))))), "yes")
        self.assertEqual(self.settled(x, (1, (((1,), (0,)),)), (1, (((1,), (1,)), ((1,), (1,))))), "no")
        self.assertEqual(self.settled(x, (1, (((1,), (0,)),)), (1, (((1,), (1,)), ((0,), (-1,))))), "no")

    def test_drawn_ones(self):
        numbers = random.Random(91)
        found = {"yes": 0, "no": 0}
        for _ in range(800):
            n = numbers.randrange(1, 4)
            s, t = drawn_pair(numbers, n, 3)
            for x in (drawn_machine(numbers, n), keeper(numbers, t)):
                if x is not None:
                    told = self.settled(x, s, t)
                    found[told] += 1
                    self.assertEqual(self.settled(x, rewritten(numbers, s), rewritten(numbers, t)), told)
                    m = keeper(numbers, s, 3)
                    if told == "yes" and m is not None:
                        self.assertEqual(keeps(product(x, m), t)[0], "yes")
                    if told == "no":
                        self.assertEqual(keeps(product(x, completes(x, s, t)[1]), t)[0], "no")
        self.assertGreater(min(found.values()), 300)

    def test_what_keeps_the_divided_demand(self):
        numbers = random.Random(92)
        many = 0
        for _ in range(300):
            n = numbers.randrange(1, 5)
            s, t = drawn_pair(numbers, n, 3)
            x = keeper(numbers, divided(t, s), 3)
            if x is not None:
                many += 1
                self.assertEqual(self.settled(x, s, t), "yes")
        self.assertGreater(many, 50)


class Far(Case):
    def test_where_three_marks_meet(self):
        for sizes, marks in (((25, 27, 29), (24, 26, 28)), ((3, 4, 5), (2, 3, 4)), ((400, 7, 3), (399, 6, 2)),
                             ((7, 39, 40), (6, 38, 39)), ((13, 37, 40), (12, 36, 39)), ((1, 39, 40), (0, 38, 39)),
                             ((399, 10, 1), (398, 9, 0)), ((26, 27, 25), (0, 26, 24))):
            self.assertLessEqual(math.prod(sizes), 20000)
            x, s, t = far_case(sizes, marks)
            began = time.monotonic()
            self.assertEqual(self.settled(x, s, t), "no")
            self.assertLess(time.monotonic() - began, 20)
            self.assertEqual(len(completes(x, s, t)[2]), meeting(sizes, marks))
        self.assertEqual(meeting((25, 27, 29), (24, 26, 28)), 19574)

    def test_marks_that_never_meet(self):
        for sizes, marks in (((20, 10, 7), (1, 2, 3)), ((9, 6, 40), (0, 1, 7)), ((40, 10, 12), (3, 3, 2))):
            self.assertIsNone(meeting(sizes, marks))
            self.assertEqual(self.settled(*far_case(sizes, marks)), "yes")

    def test_words_and_machines_of_other_lengths(self):
        sizes, marks = (25, 27, 29), (24, 26, 28)
        x, s, t = far_case(sizes, marks)
        far = meeting(sizes, marks)
        answer, m, word = completes(x, s, t)
        self.assertEqual(word, (0,) * far)
        for change in (-1, 1, 25, 27, 29, 25 * 27):
            self.assertIs(accepts(x, s, t, (answer, m, (0,) * (far + change))), False)
        self.assertIs(accepts(x, s, t, (answer, m, (0,) * (far + math.prod(sizes)))), True)
        # Other machines that keep s: the ring of 27 with the mark of s, and 14 times round; or without a mark.
        self.assertIs(accepts(x, s, t, (answer, marked_ring(27, (26,)), word)), True)
        self.assertIs(accepts(x, s, t, (answer, marked_ring(378, tuple(range(26, 378, 27))), word)), True)
        self.assertIs(accepts(x, s, t, (answer, marked_ring(378, (26,)), word)), False)
        self.assertIs(accepts(x, s, t, (answer, marked_ring(28, (26,)), word)), False)
        self.assertIs(accepts(x, s, t, (answer, marked_ring(27, ()), word)), False)

    def test_a_product_of_far_more_than_400_states(self):
        x, s, t = marked_ring(397, (396,)), anything(2), lane(7, (0, 1, 3), 6, (0, 1))
        self.assertRaises(TooMuch, product, x, marked_ring(399, ()))
        for size, mark in ((400, 399), (391, 0), (383, 7)):
            m = marked_ring(size, (mark,))
            far = meeting((397, size, 7), (396, mark, 6))
            for length, told in ((far, True), (far - 1, False), (far + 1, False), (400, False), (mark, False)):
                self.assertIs(accepts(x, s, t, ("no", m, (0,) * length)), told)
        self.assertEqual(meeting((397, 400, 7), (396, 399, 6)), 397 * 400 * 7 - 1)

    def test_words_that_lead_to_many_states(self):
        x, m = fan(400, 15), fan(399, 15)
        s, t = anything(1), only(path(3))
        for length, told in ((0, False), (1, False), (2, True), (3, False), (500, False)):
            self.assertIs(accepts(x, s, t, ("no", m, (0,) * length)), told)
        self.assertIs(accepts(x, s, (1, (((1,), (0,)),)), ("no", m, (0,) * 2000)), False)
        self.assertIs(accepts(x, s, (1, (((0,), (0,)),)), ("no", m, (0,) * 2000)), True)

    def test_just_20000_triples(self):
        began = time.monotonic()
        for many, size, other in ((400, 25, 2), (400, 2, 25), (200, 4, 25), (200, 25, 4)):
            self.assertEqual(many * size * other, 20000)
            x, s, t = fan(many, 15), only(ring(size)), only(ring(other))
            self.assertEqual(self.settled(x, s, t), "yes")
            self.assertEqual(len(completes(x, s, t)[2]), 20000)
        self.assertLess(time.monotonic() - began, 30)

    def test_at_most_20000_are_never_too_much(self):
        numbers = random.Random(93)
        began = time.monotonic()
        for many, size, other in ((400, 7, 7), (400, 5, 10), (12, 40, 40), (20, 25, 40), (399, 1, 40), (100, 14, 14)):
            for edges in (many, 6000):
                x = mixed_machine(numbers, 5, many, edges)
                s, t = mixed_demand(numbers, 5, size, 15), mixed_demand(numbers, 5, other, 90)
                self.settled(x, s, t)
                self.assertEqual(self.settled(x, s, anything(5)), "yes")
                self.settled(x, wide(5, size, 0), wide(5, other, 31))
        self.assertLess(time.monotonic() - began, 60)

    def test_more_than_20000(self):
        # Here TooMuch may be raised, or a paper told.
        for sizes in ((400, 39, 40), (400, 37, 3), (400, 40, 40)):
            x, s, t = fan(sizes[0], 15), only(ring(sizes[1])), only(ring(sizes[2]))
            try:
                self.assertEqual(self.settled(x, s, t), "yes")
            except TooMuch:
                self.assertGreater(math.prod(sizes), 20000)
        self.assertEqual(self.settled(fan(400, 15), anything(1), nothing(1)), "no")

    def test_papers_of_more_than_20000_triples(self):
        x, s, t = ring(400), only(ring(39)), only(ring(7))
        triples = tuple((at % 400, at % 7, at % 39) for at in range(400 * 39 * 7))
        self.assertIs(accepts(x, s, t, ("yes", (), triples)), True)
        self.assertIs(accepts(x, s, t, ("yes", (), triples[:-1])), False)
        self.assertIs(accepts(x, s, t, ("yes", (), triples + triples[::-1])), True)
        self.assertIs(accepts(x, s, t, ("yes", (), triples + ((0, 0, 39),))), False)


class YesPapers(Case):
    # State 2 of s is hollow, so {0} falls in its state 1.
    X = (2, (((0, 1), (1, 0)), ((0, 1), (1, 0), (1, 1))))
    S = (2, (((1, 2), (1, 0)), ((1, 2), (2, 0)), ((), (-1, -1)), ((0,), (-1, -1))))
    T = (2, (((1, 2, 3), (1, 0)), ((0, 2), (0, 0))))
    TRIPLES = ((0, 0, 0), (1, 0, 0), (1, 1, 1))

    def settles(self, paper):
        told = accepts(self.X, self.S, self.T, paper)
        self.assertIs(type(told), bool)
        return told

    def test_the_told_one(self):
        answer, under, triples = completes(self.X, self.S, self.T)
        self.assertEqual((answer, under, sorted(triples)), ("yes", (2,), list(self.TRIPLES)))

    def test_in_any_order_and_with_equal_triples(self):
        for length in range(2, 6):
            for triples in itertools.product(self.TRIPLES, repeat=length):
                self.assertIs(self.settles(("yes", (2,), triples)), set(triples) == set(self.TRIPLES))

    def test_ladders(self):
        for length in range(4):
            for under in itertools.product(range(-1, 5), repeat=length):
                told = triples_by_words(self.X, self.S, self.T, under, self.TRIPLES)
                self.assertIs(self.settles(("yes", under, self.TRIPLES)), told)
                self.assertIs(told, under == (2,))

    def test_one_triple_more_or_changed(self):
        found = {True: 0, False: 0}
        for triple in itertools.product(range(-1, 3), range(-1, 3), range(-1, 5)):
            changes = [self.TRIPLES + (triple,), (triple,) + self.TRIPLES]
            changes += [self.TRIPLES[:at] + (triple,) + self.TRIPLES[at + 1:] for at in range(3)]
            for triples in changes:
                told = all(p in range(2) and q in range(2) and r in range(4) for p, q, r in triples)
                told = told and triples_by_words(self.X, self.S, self.T, (2,), triples)
                found[told] += 1
                self.assertIs(self.settles(("yes", (2,), triples)), told)
        self.assertGreater(found[True], 5)

    def test_the_places_are_of_x_and_t_and_s(self):
        x, s, t = path(2), (1, (((1,), (1,)), ((1,), (2,)), ((0, 1), (1,)))), (1, (((1,), (1,)), ((0,), (-1,))))
        self.assertIs(accepts(x, s, t, ("yes", (), ((0, 0, 0), (1, 1, 1)))), True)
        self.assertIs(accepts(x, s, t, ("yes", (), ((0, 0, 0), (1, 1, 1), (1, 1, 2)))), True)
        self.assertIs(accepts(x, s, t, ("yes", (), ((0, 0, 0), (1, 1, 1), (1, 2, 1)))), False)
        self.assertIs(accepts(x, s, t, ("yes", (), ((0, 0, 0), (1, 1, 1), (2, 1, 1)))), False)

    def test_a_first_state_on_the_ladder(self):
        x = ring(2)
        for triples, told in (((), True), (((1, 0, 0),), False), (((0, 0, 0),), False), (((0, 0, 1),), False)):
            self.assertIs(accepts(x, chain(3), nothing(1), ("yes", (2, 1, 0), triples)), told)
        s = (1, (((), (-1,)), ((1,), (1,))))
        for triples, told in (((), True), (((0, 0, 1), (1, 0, 1)), True), (((0, 0, 1),), False),
                              (((0, 0, 1), (1, 0, 1), (0, 0, 0)), False)):
            self.assertIs(accepts(x, s, (1, (((1,), (0,)),)), ("yes", (0,), triples)), told)
            self.assertIs(accepts(x, s, (1, (((1,), (0,)),)), ("yes", (), triples)), (0, 0, 0) in triples)

    def test_all_ladders_and_triples_of_small_ones(self):
        numbers = random.Random(94)
        found = {True: 0, False: 0}
        every = list(itertools.product(range(2), repeat=3))
        for _ in range(25):
            n = numbers.randrange(1, 3)
            x = mixed_machine(numbers, n, 2, 3)
            s, t = mixed_demand(numbers, n, 2, 30), mixed_demand(numbers, n, 2, 85)
            for under in ((), (0,), (1,), (0, 1)):
                for bits in range(256):
                    triples = tuple(triple for at, triple in enumerate(every) if (bits >> at) & 1)
                    told = triples_by_words(x, s, t, under, triples)
                    found[told] += 1
                    self.assertIs(accepts(x, s, t, ("yes", under, triples)), told)
                    if told:
                        self.assertEqual(completes(x, s, t)[0], "yes")
        self.assertGreater(min(found.values()), 200)

    def test_the_told_papers_changed(self):
        numbers = random.Random(95)
        found = {True: 0, False: 0}
        for _ in range(300):
            n = numbers.randrange(1, 4)
            s, t = drawn_pair(numbers, n, 3)
            x = keeper(numbers, divided(t, s))
            if x is None:
                continue
            _, under, triples = completes(x, s, t)
            for _ in range(5):
                changed = list(triples)
                numbers.shuffle(changed)
                if changed and numbers.random() < 0.5:
                    changed.pop()
                if numbers.random() < 0.5:
                    changed.append(tuple(numbers.randrange(len(one[1])) for one in (x, t, s)))
                fewer = under[:numbers.randrange(len(under) + 1)]
                told = triples_by_words(x, s, t, fewer, tuple(changed))
                found[told] += 1
                self.assertIs(accepts(x, s, t, ("yes", fewer, tuple(changed))), told)
        self.assertGreater(min(found.values()), 80)

    def test_no_number_in_the_place_of_a_number(self):
        for thing in NO_NUMBERS + (-1, 4, 10 ** 30):
            for at, place in itertools.product(range(3), range(3)):
                triple = self.TRIPLES[at][:place] + (thing,) + self.TRIPLES[at][place + 1:]
                changed = self.TRIPLES[:at] + (triple,) + self.TRIPLES[at + 1:]
                self.assertIs(self.settles(("yes", (2,), changed)), False)
                self.assertIs(self.settles(("yes", (2,), self.TRIPLES + (triple,))), False)
            for under in ((thing,), (thing, 2), (2, thing)):
                self.assertIs(self.settles(("yes", under, self.TRIPLES)), False)
        self.assertIs(accepts(STILL, anything(0), anything(0), ("yes", (), ((0, 0, 0),))), True)
        for triple in ((False, 0, 0), (0, False, 0), (0, 0, False)):
            self.assertIs(accepts(STILL, anything(0), anything(0), ("yes", (), (triple,))), False)
        self.assertIs(accepts(STILL, nothing(0), nothing(0), ("yes", (0,), ())), True)
        self.assertIs(accepts(STILL, nothing(0), nothing(0), ("yes", (False,), ())), False)

    def test_things_that_are_no_triple(self):
        for thing in ((), (0,), (0, 0), (0, 0, 0, 0), "", "000", "a", 0, None, True, ((0, 0, 0),), ((0,), (0,), (0,))):
            for triples in (self.TRIPLES + (thing,), (thing,) + self.TRIPLES, (thing,)):
                self.assertIs(self.settles(("yes", (2,), triples)), False)

    def test_what_is_no_tuple(self):
        for thing in ("", "000", "yes", 0, 1, None, True, False, list(self.TRIPLES)):
            self.assertIs(self.settles(("yes", (2,), thing)), False)
            self.assertIs(self.settles(("yes", thing, self.TRIPLES)), False)
            self.assertIs(accepts(STILL, nothing(0), nothing(0), ("yes", (0,), thing)), False)

    def test_where_it_does_not_complete(self):
        for under in ((), (0,)):
            for triples in ((), ((0, 0, 0),), ((0, 0, 0), (0, 0, 0))):
                self.assertIs(accepts(ring(1), anything(1), nothing(1), ("yes", under, triples)), False)


class NoPapers(Case):
    X = (2, (((0, 0), (0, 1), (1, 1)), ((1, 0),)))
    S = (2, (((1, 2, 3), (0, 1)), ((0, 3), (0, 1))))
    T = (2, (((0, 1, 2, 3), (1, 0)), ((0, 1, 2), (1, 0))))

    def settles(self, paper):
        told = accepts(self.X, self.S, self.T, paper)
        self.assertIs(type(told), bool)
        return told

    def test_any_machine_and_word(self):
        self.assertEqual(self.settled(self.X, self.S, self.T), "no")
        found = {True: 0, False: 0}
        for m in SMALL_MACHINES[2]:
            kept = keeps(m, self.S)[0] == "yes"
            for word in words(2, 3):
                told = kept and is_fault_by_words(self.X, m, self.T, word)
                found[told] += 1
                self.assertIs(self.settles(("no", m, word)), told)
        self.assertGreater(min(found.values()), 20)

    def test_drawn_ones(self):
        numbers = random.Random(96)
        found = {True: 0, False: 0}
        for _ in range(300):
            n = numbers.randrange(1, 4)
            s, t = drawn_pair(numbers, n, 3)
            x = drawn_machine(numbers, n)
            for m in (drawn_machine(numbers, n), keeper(numbers, s)):
                if m is None:
                    continue
                kept = keeps(m, s)[0] == "yes"
                for word in words(n, 3):
                    told = kept and is_fault_by_words(x, m, t, word)
                    found[told] += 1
                    self.assertIs(accepts(x, s, t, ("no", m, word)), told)
                    if told:
                        self.assertEqual(completes(x, s, t)[0], "no")
        self.assertGreater(min(found.values()), 100)

    def test_a_word_that_leads_nowhere(self):
        # In the product, in the demand, or in both.
        x, m, s = ring(1), path(3), anything(1)
        last = (1, (((), (1,)), ((), (-1,))))
        for length, told in ((0, True), (1, True), (2, False), (3, False), (4, False)):
            self.assertIs(accepts(x, s, last, ("no", m, (0,) * length)), told)
            self.assertIs(accepts(m, s, last, ("no", x, (0,) * length)), told)
        for length in range(5):
            t = (1, (((), (0,)),))
            self.assertIs(accepts(x, s, t, ("no", m, (0,) * length)), length < 3)
            self.assertIs(accepts(m, s, t, ("no", x, (0,) * length)), length < 3)
            self.assertIs(accepts(x, s, nothing(1), ("no", m, (0,) * length)), length == 0)

    def test_a_state_of_the_machine_alone_is_no_fault(self):
        # m offers both letters there, x one, and t takes that one.
        t = (2, (((1,), (0, 0)),))
        self.assertIs(accepts((2, (((0, 0),),)), anything(2), t, ("no", (2, (((0, 0), (1, 0)),)), ())), False)
        self.assertIs(accepts((2, (((1, 0),),)), anything(2), t, ("no", (2, (((0, 0), (1, 0)),)), ())), True)

    def test_a_machine_that_does_not_keep_s(self):
        for m in (path(1), path(3), ring(1), ring(2)):
            told = keeps(m, only(path(3)))[0] == "yes"
            self.assertIs(accepts(ring(1), only(path(3)), nothing(1), ("no", m, ())), told)

    def test_the_bounds_of_machines(self):
        x = (5, ((),))
        self.assertIs(accepts(x, anything(5), nothing(5), ("no", with_edges(6000), ())), True)
        self.assertIs(accepts(x, anything(5), nothing(5), ("no", with_edges(6001), ())), False)
        self.assertIs(accepts(x, anything(5), nothing(5), ("no", with_edges(6001, 35), ())), False)
        self.assertIs(accepts(ring(1), anything(1), nothing(1), ("no", path(400), ())), True)
        self.assertIs(accepts(ring(1), anything(1), nothing(1), ("no", path(401), ())), False)

    def test_machines_with_other_letters(self):
        for n, other in itertools.product(range(6), repeat=2):
            self.assertIs(accepts((n, ((),)), anything(n), nothing(n), ("no", (other, ((),)), ())), n == other)

    def test_what_is_no_machine(self):
        for n in range(6):
            for name, thing in BAD_MACHINES.items():
                with self.subTest(name, n=n):
                    self.assertIs(accepts((n, ((),)), anything(n), nothing(n), ("no", thing, ())), False)
        self.assertIs(accepts(ring(1), anything(1), nothing(1), ("no", anything(1), ())), False)

    def test_letters_that_are_none(self):
        x, m, t = ring(1), ring(1), (1, (((), (0,)),))
        self.assertIs(accepts(x, anything(1), t, ("no", m, (0, 0, 0))), True)
        for thing in NO_NUMBERS + (-1, 1, 5, 10 ** 30):
            for at in range(3):
                word = (0,) * at + (thing,) + (0,) * (2 - at)
                self.assertIs(accepts(x, anything(1), t, ("no", m, word)), False)
        both = (2, (((0, 0), (1, 0)),))
        self.assertIs(accepts(both, anything(2), (2, (((), (0, 0)),)), ("no", both, (1, 0))), True)
        self.assertIs(accepts(both, anything(2), (2, (((), (0, 0)),)), ("no", both, (True, 0))), False)
        self.assertIs(accepts(both, anything(2), (2, (((), (0, 0)),)), ("no", both, (1, False))), False)

    def test_words_that_are_no_tuple(self):
        for thing in ("", "0", "a", 0, None, True, False, []):
            self.assertIs(accepts(ring(1), anything(1), nothing(1), ("no", ring(1), thing)), False)
            self.assertIs(accepts(STILL, anything(0), nothing(0), ("no", STILL, thing)), False)
        self.assertIs(accepts(STILL, anything(0), nothing(0), ("no", STILL, ())), True)

    def test_where_it_completes(self):
        for m in SMALL_MACHINES[1]:
            for length in range(3):
                self.assertIs(accepts(ring(1), anything(1), anything(1), ("no", m, (0,) * length)), False)
                self.assertIs(accepts(ring(1), nothing(1), nothing(1), ("no", m, (0,) * length)), False)


class OtherPapers(Case):
    def test_forms(self):
        x, s, t = ring(1), anything(1), anything(1)
        triples = ((0, 0, 0),)
        self.assertIs(accepts(x, s, t, ("yes", (), triples)), True)
        for first in ("no", "", "Yes", "YES", "yes ", "y", "yea", 1, 0, None, True, False, (), ("yes",), (("yes",),)):
            self.assertIs(accepts(x, s, t, (first, (), triples)), False)
        for paper in ((), ("yes",), ("yes", ()), ("yes", triples), ("yes", triples, ()), ("yes", (), triples, ()),
                      ((), triples), ((), "yes", triples), ((), triples, "yes"), (("yes", (), triples),),
                      ("yes", ((), triples)), triples, ("yes", (), (0, 0, 0)), ("yes", (), ((0, 0),))):
            self.assertIs(accepts(x, s, t, paper), False)

    def test_forms_of_faults(self):
        x, s, t, m = ring(1), anything(1), nothing(1), ring(2)
        self.assertIs(accepts(x, s, t, ("no", m, ())), True)
        for first in ("yes", "", "No", "NO", "no ", "n", 1, 0, None, True, False, (), ("no",)):
            self.assertIs(accepts(x, s, t, (first, m, ())), False)
        for paper in (("no",), ("no", m), ("no", (), m), ("no", m, (), 0), ("no", m, (), ()), (m, ()), (m, "no", ()),
                      (("no", m, ()),), ("no", (m, ())), ("no",) + m, m):
            self.assertIs(accepts(x, s, t, paper), False)

    def test_what_is_no_tuple(self):
        for paper in ("", "yes", "no", "yes()", 0, 1, None, True, False, ["yes", (), ((0, 0, 0),)],
                      ["no", ring(1), ()]):
            for t in (anything(1), nothing(1)):
                self.assertIs(accepts(ring(1), anything(1), t, paper), False)


class Refused(unittest.TestCase):
    def each(self, error, x, s, t):
        self.assertRaises(error, completes, x, s, t)
        for paper in (("yes", (), ((0, 0, 0),)), ("yes", (0,), ()), ("no", ring(1), ()), (), None):
            self.assertRaises(error, accepts, x, s, t, paper)

    def test_the_machine_goes_first(self):
        for name, thing in BAD_MACHINES.items():
            with self.subTest(name):
                self.each(BadMachine, thing, SAMPLE, SAMPLE)
                self.each(BadMachine, thing, None, chain(41))
                self.each(BadMachine, thing, anything(3), nothing(4))

    def test_the_demands_go_ahead_of_unlike_letters(self):
        for name, thing in BAD_DEMANDS.items():
            with self.subTest(name):
                for x in (STILL, ring(1), (5, ((),))):
                    for other in (SAMPLE, nothing(0), thing):
                        self.each(BadDemand, x, thing, other)
                        self.each(BadDemand, x, other, thing)

    def test_unlike_letters(self):
        for n, other in itertools.permutations(range(6), 2):
            self.each(BadLetters, (n, ((),)), anything(other), anything(other))
            self.each(BadLetters, (n, ((),)), anything(n), anything(other))
            self.each(BadLetters, (n, ((),)), anything(other), anything(n))
            self.each(BadLetters, (n, ((),)), nothing(other), nothing(n))

    def test_other_orders(self):
        self.each(BadMachine, SAMPLE, (2, ((),)), SAMPLE)
        self.each(BadDemand, (2, ((),)), (2, ((),)), SAMPLE)
        self.each(BadDemand, (2, ((),)), SAMPLE, (2, ((),)))


class Sets(Case):
    def test_each_set_beside_each(self):
        for n in range(4):
            for bits, other, wanted in itertools.product(every_set(n), repeat=3):
                x = (n, (tuple((letter, 0) for letter in letters_of(n, bits)),))
                s, t = (n, (((other,), (0,) * n),)), (n, (((wanted,), (0,) * n),))
                self.assertEqual(completes(x, s, t)[0], "yes" if bits & other == wanted else "no")

    def test_ladders_of_all_hollow_states(self):
        numbers = random.Random(97)
        for _ in range(100):
            n = numbers.randrange(1, 4)
            s = mixed_demand(numbers, n, 4, 25)
            paper = completes((n, ((),)), s, anything(n))
            self.assertEqual(set(paper[1]), set(ladder(s)))


if __name__ == "__main__":
    unittest.main()
