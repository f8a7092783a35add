"""[5.1] and [5.2]: whether a demand refines another one, and the papers that settle it."""

import itertools
import random
import time
import unittest

from spandrel.demand import anything, nothing, only
from spandrel.errors import BadDemand, BadLetters
from spandrel.hollow import hollow, is_ladder, ladder, trimmed
from spandrel.keeping import keeps
from spandrel.machine import check_machine, led, offers
from spandrel.refining import refines, takes
from tests.demands import BAD_DEMANDS, GOOD_DEMANDS, SAMPLE, chain, every_set, mixed_demand, wide
from tests.drawn import SMALL_MACHINES, drawn_pair, keeper, letters_of, loosened, rewritten, sets_behind, tightened
from tests.drawn import words
from tests.samples import BAD_MACHINES, NO_NUMBERS, fan, path, ring, with_edges


def marked(size, base, marks, other):
    """A ring of one letter: each state accepts the base, but the marked ones the other tuple of sets."""
    return (1, tuple((other if at in marks else base, ((at + 1) % size,)) for at in range(size)))


def meeting(size, mark, other, also):
    return next(at for at in itertools.count() if at % size == mark and at % other == also)


def falls(ahead, bits, under, n):
    return any(ahead[letter] in under for letter in letters_of(n, bits))


def pairs_by_words(s, t, under, pairs):
    """Whether a ladder and pairs are a paper, in the words of the document."""
    if not is_ladder(s, under) or not ((0, 0) in pairs or 0 in under):
        return False
    among = set(pairs)
    for x, y in among:
        if x in under:
            return False
        for bits in s[1][x][0]:
            if falls(s[1][x][1], bits, under, s[0]):
                continue
            if bits not in t[1][y][0]:
                return False
            if any((s[1][x][1][a], t[1][y][1][a]) not in among for a in letters_of(s[0], bits)):
                return False
    return True


def refines_by_words(s, t, longest):
    """Whether by each word s comes to sets alone that t accepts there."""
    return all(sets_behind(s, word) <= sets_behind(t, word) for word in words(s[0], longest))


class Case(unittest.TestCase):
    def settled(self, s, t):
        """The answer, after a look at its paper."""
        paper = refines(s, t)
        self.assertIs(type(paper), tuple)
        if paper[0] == "yes":
            self.assertEqual(len(paper), 3)
            self.assertIs(pairs_by_words(s, t, paper[1], paper[2]), True)
        else:
            self.assertEqual((len(paper), paper[0]), (2, "no"))
            self.assertIsNone(check_machine(paper[1]))
            self.assertEqual(paper[1][0], s[0])
            self.assertEqual(keeps(paper[1], s)[0], "yes")
            self.assertEqual(keeps(paper[1], t)[0], "no")
        self.assertIs(takes(s, t, paper), True)
        return paper[0]


class Refines(Case):
    def test_anything_and_nothing(self):
        for n in range(6):
            self.assertEqual(self.settled(anything(n), anything(n)), "yes")
            self.assertEqual(self.settled(nothing(n), nothing(n)), "yes")
            self.assertEqual(self.settled(nothing(n), anything(n)), "yes")
            self.assertEqual(self.settled(anything(n), nothing(n)), "no")

    def test_samples(self):
        for name, demand in GOOD_DEMANDS.items():
            with self.subTest(name):
                n = demand[0]
                self.assertEqual(self.settled(demand, demand), "yes")
                self.assertEqual(self.settled(demand, trimmed(demand)), "yes")
                self.assertEqual(self.settled(trimmed(demand), demand), "yes")
                self.assertEqual(self.settled(demand, anything(n)), "yes")
                self.assertEqual(self.settled(nothing(n), demand), "yes")
                self.assertEqual(self.settled(demand, nothing(n)), "yes" if 0 in hollow(demand) else "no")

    def test_a_hollow_first_state(self):
        for size in (1, 2, 40):
            for other in (nothing(1), anything(1), only(ring(40)), chain(7)):
                self.assertEqual(self.settled(chain(size), other), "yes")
                self.assertIn(0, refines(chain(size), other)[1])
            self.assertEqual(self.settled(only(ring(3)), chain(size)), "no")

    def test_sets_that_fall_do_not_matter(self):
        falling = (2, (((1, 2, 3), (1, 0)), ((), (-1, -1))))
        self.assertEqual(self.settled(falling, (2, (((2,), (-1, 0)),))), "yes")
        self.assertEqual(self.settled((2, (((2,), (-1, 0)),)), falling), "yes")
        self.assertEqual(self.settled((2, (((1, 2), (0, 0)),)), falling), "no")

    def test_one_set_more_or_less(self):
        for n in range(4):
            for bits in every_set(n):
                less = (n, ((tuple(other for other in every_set(n) if other != bits), (0,) * n),))
                self.assertEqual(self.settled(less, anything(n)), "yes")
                self.assertEqual(self.settled(anything(n), less), "no")

    def test_the_first_state_is_offered_as_the_word_needs_it(self):
        # The word begins with the letter 1, and comes back to state 0, where the set {0} is the fault.
        s = (2, (((1, 2), (0, 1)), ((2,), (0, 0))))
        t = (2, (((1, 2), (0, 1)), ((2,), (0, 2)), ((2,), (2, 1))))
        self.assertEqual(self.settled(s, t), "no")

    def test_rings_that_differ_far_away(self):
        for size, mark, other, also in ((39, 38, 40, 39), (40, 39, 39, 38), (37, 0, 40, 39), (40, 5, 33, 32),
                                        (39, 38, 40, 38), (2, 1, 3, 2), (1, 0, 40, 39), (40, 39, 1, 0)):
            s = marked(size, (1,), (mark,), (0, 1))
            t = marked(other, (0, 1), (also,), (1,))
            self.assertEqual(self.settled(s, t), "no")
            far = keeps(refines(s, t)[1], t)
            self.assertEqual(far[1], (0,) * meeting(size, mark, other, also))
        self.assertEqual(meeting(39, 38, 40, 39), 1559)

    def test_rings_whose_marks_never_meet(self):
        for size, mark, other, also in ((40, 1, 40, 0), (40, 0, 38, 1), (39, 1, 36, 3), (40, 7, 20, 8)):
            s = marked(size, (1,), (mark,), (0, 1))
            t = marked(other, (0, 1), (also,), (1,))
            self.assertEqual(self.settled(s, t), "yes")
            self.assertEqual(self.settled(t, s), "no")

    def test_rings_of_other_sizes(self):
        for size in range(1, 41):
            self.assertEqual(self.settled(only(ring(size)), only(ring(41 - size))), "yes")

    def test_machines_that_need_many_rows_and_edges(self):
        # By the long word each state of s is come to with each letter, and by the sets {a}, {ab} .. in turn.
        rising = (1, 3, 7, 15, 31)
        numbers = random.Random(21)
        rows = edges = 0
        for _ in range(30):
            s = (5, tuple((rising, tuple(numbers.randrange(40) for _ in range(5))) for _ in range(40)))
            ahead = [(at + 1) % 40 for at in range(40)]
            t = [(rising, (ahead[at],) * 5) for at in range(40)]
            t[39] = ((1, 3, 7, 15), t[39][1])
            self.assertEqual(self.settled(s, (5, tuple(t))), "no")
            t = [(rising, tuple(numbers.randrange(40) for _ in range(5))) for _ in range(40)]
            t[numbers.randrange(40)] = ((7,), t[0][1])
            self.settled(s, (5, tuple(t)))
            machine = refines(s, (5, tuple(t)))
            if machine[0] == "no":
                rows = max(rows, len(machine[1][1]))
                edges = max(edges, sum(len(row) for row in machine[1][1]))
        self.assertLessEqual(rows, 400)
        self.assertLessEqual(edges, 6000)

    def test_a_counter_that_goes_through_each_letter(self):
        # t follows one word that goes 280 letters through all of s; elsewhere it allows everything.
        rising = (1, 3, 7, 15, 31)
        s = (5, tuple((rising, ((at + 1) % 8,) * 5) for at in range(8)))
        way = [letter for letter in (4, 3, 2, 1, 0) for _ in range(7)]
        t = [(rising, tuple(at + 1 if letter == needed else 39 for letter in range(5)))
             for at, needed in enumerate(way)]
        t += [((1,), (39,) * 5)] + [(rising, (39,) * 5)] * 4
        self.assertEqual(len(t), 40)
        self.assertEqual(self.settled(s, (5, tuple(t))), "no")
        word = keeps(refines(s, (5, tuple(t)))[1], (5, tuple(t)))[1]
        self.assertEqual(word, tuple(way))

    def test_drawn_ones(self):
        numbers = random.Random(22)
        found = {"yes": 0, "no": 0}
        for _ in range(300):
            n = numbers.randrange(4)
            s, t = drawn_pair(numbers, n, 3)
            told = self.settled(s, t)
            found[told] += 1
            many = len(trimmed(s)[1]) * len(trimmed(t)[1])
            if n ** many < 300:
                self.assertEqual(told == "yes", refines_by_words(s, t, many), (s, t))
            if told == "yes":
                for _ in range(5):
                    machine = keeper(numbers, s)
                    if machine is not None:
                        self.assertEqual(keeps(machine, t)[0], "yes")
        self.assertGreater(min(found.values()), 50)

    def test_made_ones(self):
        numbers = random.Random(23)
        for _ in range(200):
            n = numbers.randrange(6)
            s = mixed_demand(numbers, n, numbers.randint(1, 18), numbers.randrange(20, 95))
            self.assertEqual(self.settled(s, loosened(numbers, s)), "yes")
            self.assertEqual(self.settled(tightened(numbers, s), s), "yes")
            again = rewritten(numbers, s)
            self.assertEqual(self.settled(s, again), "yes")
            self.assertEqual(self.settled(again, s), "yes")

    def test_all_small_machines(self):
        numbers = random.Random(24)
        found = {"yes": 0, "no": 0}
        for _ in range(100):
            n = numbers.randrange(3)
            s, t = drawn_pair(numbers, n, 2)
            told = self.settled(s, t)
            found[told] += 1
            both = [keeps(m, t)[0] for m in SMALL_MACHINES[n] if keeps(m, s)[0] == "yes"]
            if "no" in both:
                self.assertEqual(told, "no")
        self.assertGreater(min(found.values()), 20)

    def test_the_largest_soon(self):
        began = time.monotonic()
        for left_out in (0, 1, 7, 16, 30, 31):
            self.assertEqual(self.settled(wide(5, 40, left_out), anything(5)), "yes")
            self.assertEqual(self.settled(wide(5, 40, left_out), wide(5, 39, left_out)), "yes")
            self.assertEqual(self.settled(wide(5, 40, left_out), wide(5, 40, 31 - left_out)), "no")
        self.assertLess(time.monotonic() - began, 20)


class YesPapers(Case):
    # State 2 is hollow, and 3 for that; so {0} falls in state 1. The ladders are (), (2,) and (2, 3).
    S = (2, (((1, 2), (1, 0)), ((0, 1, 2), (2, 0)), ((), (-1, -1)), ((3,), (2, 1))))
    T = (2, (((1, 2, 3), (1, 0)), ((0, 2), (0, 0)), ((0, 1, 2, 3), (1, 1))))
    PAIRS = ((0, 0), (1, 1))

    def settles(self, paper):
        told = takes(self.S, self.T, paper)
        self.assertIs(type(told), bool)
        return told

    def test_the_told_one(self):
        self.assertEqual(ladder(self.S), (2, 3))
        answer, under, pairs = refines(self.S, self.T)
        self.assertEqual((answer, sorted(under), sorted(pairs)), ("yes", [2, 3], list(self.PAIRS)))

    def test_in_any_order_and_with_equal_pairs(self):
        for length in range(5):
            for pairs in itertools.product(self.PAIRS, repeat=length):
                self.assertIs(self.settles(("yes", (2, 3), pairs)), set(pairs) == set(self.PAIRS))

    def test_ladders(self):
        for length in range(4):
            for under in itertools.product(range(-1, 5), repeat=length):
                told = pairs_by_words(self.S, self.T, under, self.PAIRS)
                # Without 2 on the ladder, {0} stands in state 1, and is not accepted.
                self.assertIs(told, is_ladder(self.S, under) and 2 in under)
                self.assertIs(self.settles(("yes", under, self.PAIRS)), told)

    def test_a_ladder_of_fewer_states_may_be_enough(self):
        s = (1, (((0,), (1,)), ((), (-1,)), ((1,), (1,))))
        for under in ((), (1,), (1, 2)):
            self.assertIs(takes(s, s, ("yes", under, ((0, 0),))), True)
        self.assertIs(takes(s, s, ("yes", (2, 1), ((0, 0),))), False)
        for under in ((), (1,), (1, 2)):
            # A hollow state that is not on the ladder may stand in a pair.
            for other in range(3):
                told = 1 not in under and other in range(3)
                self.assertIs(takes(s, s, ("yes", under, ((0, 0), (1, other)))), told)

    def test_a_first_state_on_the_ladder(self):
        for pairs, told in (((), True), (((1, 0),), False), (((0, 0),), False), (((2, 0),), False)):
            self.assertIs(takes(chain(3), nothing(1), ("yes", (2, 1, 0), pairs)), told)
        s = (1, (((), (-1,)), ((0,), (-1,)), ((1,), (2,))))
        t = (1, (((), (-1,)), ((1,), (1,))))
        for pairs, told in (((), True), (((2, 1),), True), (((1, 1),), False), (((2, 0),), False),
                            (((2, 1), (2, 1)), True), (((2, 1), (0, 0)), False), (((0, 1),), False)):
            self.assertIs(takes(s, t, ("yes", (0,), pairs)), told)
            # Without the ladder, state 0, which accepts nothing, may stand in a pair, and must.
            self.assertIs(takes(s, t, ("yes", (), pairs)), pairs in (((0, 0),), ((2, 1), (0, 0))))

    def test_one_pair_more_or_changed(self):
        for pair in itertools.product(range(-1, 5), range(-1, 4)):
            for pairs in (self.PAIRS + (pair,), (pair,) + self.PAIRS, (pair, self.PAIRS[1]), (self.PAIRS[0], pair)):
                told = all(p in range(4) and q in range(3) for p, q in pairs)
                told = told and pairs_by_words(self.S, self.T, (2,), pairs)
                self.assertIs(self.settles(("yes", (2,), pairs)), told)

    def test_a_state_minus_one(self):
        # -1 is no state, though it stands in next, and Python would take it for the last one.
        s = (2, (((1,), (0, -1)), ((1,), (1, -1))))
        self.assertIs(takes(s, s, ("yes", (), ((0, 0),))), True)
        for pair in ((-1, -1), (-1, 0), (0, -1), (-1, 1), (1, -1)):
            self.assertIs(takes(s, s, ("yes", (), ((0, 0), pair))), False)

    def test_all_ladders_and_pairs_of_small_ones(self):
        numbers = random.Random(25)
        found = {True: 0, False: 0}
        every = list(itertools.product(range(2), range(2)))
        for _ in range(150):
            n = numbers.randrange(1, 3)
            s, t = mixed_demand(numbers, n, 2, 45), mixed_demand(numbers, n, 2, 75)
            for under in ((), (0,), (1,), (0, 1), (1, 0)):
                for bits in range(16):
                    pairs = tuple(pair for at, pair in enumerate(every) if (bits >> at) & 1)
                    told = pairs_by_words(s, t, under, pairs)
                    found[told] += 1
                    self.assertIs(takes(s, t, ("yes", under, pairs)), told)
                    if told:
                        self.assertEqual(refines(s, t)[0], "yes")
        self.assertGreater(min(found.values()), 200)

    def test_no_number_in_the_place_of_a_number(self):
        for thing in NO_NUMBERS + (-1, 4, 10 ** 30):
            for at in range(2):
                for pair in ((thing, self.PAIRS[at][1]), (self.PAIRS[at][0], thing)):
                    changed = self.PAIRS[:at] + (pair,) + self.PAIRS[at + 1:]
                    self.assertIs(self.settles(("yes", (2, 3), changed)), False)
                    self.assertIs(self.settles(("yes", (2, 3), self.PAIRS + (pair,))), False)
            for under in ((thing,), (thing, 3), (2, thing), (2, 3, thing)):
                self.assertIs(self.settles(("yes", under, self.PAIRS)), False)
        self.assertIs(takes(anything(0), anything(0), ("yes", (), ((0, 0),))), True)
        self.assertIs(takes(anything(0), anything(0), ("yes", (), ((False, 0),))), False)
        self.assertIs(takes(anything(0), anything(0), ("yes", (), ((0, False),))), False)
        self.assertIs(takes(nothing(0), nothing(0), ("yes", (0,), ())), True)
        self.assertIs(takes(nothing(0), nothing(0), ("yes", (False,), ())), False)

    def test_things_that_are_no_pair(self):
        for thing in ((), (0,), (0, 0, 0), "", "00", "a", 0, None, True, ((0, 0),), ((0, 0), (0, 0))):
            for pairs in (self.PAIRS + (thing,), (thing,) + self.PAIRS, (thing,)):
                self.assertIs(self.settles(("yes", (2, 3), pairs)), False)

    def test_what_is_no_tuple(self):
        for thing in ("", "00", "yes", 0, 1, None, True, False, list(self.PAIRS)):
            self.assertIs(self.settles(("yes", (2, 3), thing)), False)
            self.assertIs(self.settles(("yes", thing, self.PAIRS)), False)
            self.assertIs(takes(nothing(1), nothing(1), ("yes", (0,), thing)), False)

    def test_where_it_does_not_refine(self):
        for under in ((), (0,)):
            for pairs in ((), ((0, 0),), ((0, 0), (0, 0))):
                self.assertIs(takes(anything(2), nothing(2), ("yes", under, pairs)), False)


class NoPapers(Case):
    S = (1, (((0, 1), (0,)),))
    T = (1, (((1,), (1,)), ((0, 1), (0,))))

    def settles(self, paper):
        told = takes(self.S, self.T, paper)
        self.assertIs(type(told), bool)
        return told

    def test_any_machine_that_keeps_the_one_alone(self):
        for machine in SMALL_MACHINES[1] + [ring(400), path(2), path(3), path(399), path(400), fan(400, 15)]:
            told = keeps(machine, self.S)[0] == "yes" and keeps(machine, self.T)[0] == "no"
            self.assertIs(self.settles(("no", machine)), told)
        self.assertIs(self.settles(("no", path(399))), True)
        self.assertIs(self.settles(("no", path(400))), False)
        self.assertIs(self.settles(("no", ring(1))), False)

    def test_a_machine_that_keeps_neither_or_the_other_alone(self):
        s, t = (1, (((1,), (1,)), ((0,), (-1,)))), (1, (((0,), (-1,)),))
        for machine, told in ((path(1), False), (path(2), True), (path(3), False), (ring(1), False)):
            self.assertIs(takes(s, t, ("no", machine)), told)

    def test_the_bounds_of_machines(self):
        s, t = anything(5), (5, (((0,), (0,) * 5),))
        self.assertIs(takes(s, t, ("no", with_edges(6000))), True)
        self.assertIs(takes(s, t, ("no", with_edges(6000, 35))), True)
        self.assertIs(takes(s, t, ("no", with_edges(6001))), False)
        self.assertIs(takes(s, t, ("no", with_edges(6001, 35))), False)
        self.assertIs(takes(anything(1), nothing(1), ("no", path(400))), True)
        self.assertIs(takes(anything(1), nothing(1), ("no", path(401))), False)

    def test_machines_with_other_letters(self):
        for n in range(6):
            for other in range(6):
                self.assertIs(takes(anything(n), nothing(n), ("no", (other, ((),)))), n == other)

    def test_what_is_no_machine(self):
        for n in range(6):
            for name, thing in BAD_MACHINES.items():
                with self.subTest(name, n=n):
                    self.assertIs(takes(anything(n), nothing(n), ("no", thing)), False)
        self.assertIs(takes(anything(1), nothing(1), ("no", anything(1))), False)
        self.assertIs(takes(anything(1), nothing(1), ("no", [1, [[]]])), False)

    def test_where_it_refines(self):
        for machine in SMALL_MACHINES[1]:
            self.assertIs(takes(self.S, anything(1), ("no", machine)), False)
            self.assertIs(takes(nothing(1), self.S, ("no", machine)), False)

    def test_drawn_machines(self):
        numbers = random.Random(26)
        found = {True: 0, False: 0}
        for _ in range(150):
            n = numbers.randrange(3)
            s, t = drawn_pair(numbers, n, 2)
            for machine in SMALL_MACHINES[n]:
                told = keeps(machine, s)[0] == "yes" and keeps(machine, t)[0] == "no"
                found[told] += 1
                self.assertIs(takes(s, t, ("no", machine)), told)
        self.assertGreater(min(found.values()), 100)

    def test_the_word_is_really_done(self):
        s, t = marked(39, (1,), (38,), (0, 1)), marked(40, (0, 1), (39,), (1,))
        machine = refines(s, t)[1]
        states = {0}
        for _ in range(1559):
            states = {to for at in states for _, to in machine[1][at]}
        self.assertIn(0, [offers(machine, at) for at in states])
        self.assertEqual(led(machine, (0,) * 3), sorted({3}))


class OtherPapers(Case):
    def test_forms(self):
        s, t = anything(1), anything(1)
        pairs = ((0, 0),)
        self.assertIs(takes(s, t, ("yes", (), pairs)), True)
        for first in ("no", "", "Yes", "YES", "yes ", "y", "yea", 1, 0, None, True, False, (), ("yes",), (("yes",),)):
            self.assertIs(takes(s, t, (first, (), pairs)), False)
        for paper in ((), ("yes",), ("yes", ()), ("yes", pairs), ("yes", pairs, ()), ("yes", (), pairs, ()),
                      ("yes", (), pairs, pairs), ((), pairs), ((), "yes", pairs), ((), pairs, "yes"),
                      (("yes", (), pairs),), ("yes", ((), pairs)), pairs):
            self.assertIs(takes(s, t, paper), False)

    def test_forms_of_machines(self):
        s, t, machine = anything(1), nothing(1), ring(2)
        self.assertIs(takes(s, t, ("no", machine)), True)
        for first in ("yes", "", "No", "NO", "no ", "n", 1, 0, None, True, False, (), ("no",)):
            self.assertIs(takes(s, t, (first, machine)), False)
        for paper in (("no",), ("no", machine, ()), ("no", machine, machine), ("no", (), machine), (machine, "no"),
                      (machine,), machine, ("no",) + machine, ("no", (machine,)), (("no", machine),), ("no", None),
                      ("no", (), 0)):
            self.assertIs(takes(s, t, paper), False)

    def test_what_is_no_tuple(self):
        for paper in ("", "yes", "no", "yesno", 0, 1, None, True, False, ["yes", (), ((0, 0),)], ["no", ring(1)]):
            self.assertIs(takes(anything(1), anything(1), paper), False)
            self.assertIs(takes(anything(1), nothing(1), paper), False)
            self.assertIs(takes(nothing(1), nothing(1), paper), False)


class Refused(unittest.TestCase):
    def each(self, error, s, t):
        self.assertRaises(error, refines, s, t)
        for paper in (("yes", (), ((0, 0),)), ("yes", (0,), ()), ("no", ring(1)), (), None):
            self.assertRaises(error, takes, s, t, paper)

    def test_what_is_no_demand(self):
        for name, thing in BAD_DEMANDS.items():
            with self.subTest(name):
                for other in (SAMPLE, nothing(0), anything(5), thing):
                    self.each(BadDemand, thing, other)
                    self.each(BadDemand, other, thing)

    def test_unlike_letters(self):
        for n, other in itertools.permutations(range(6), 2):
            self.each(BadLetters, anything(n), anything(other))
            self.each(BadLetters, nothing(n), anything(other))


if __name__ == "__main__":
    unittest.main()
