"""[1.2], [3.2] and [3.3]: keeping a demand, faults, and the papers of both."""

import itertools
import random
import time
import unittest

from spandrel.demand import anything, led_to, nothing
from spandrel.errors import BadDemand, BadLetters, BadMachine
from spandrel.keeping import is_kept, keeps
from spandrel.machine import led, offers
from tests.demands import BAD_DEMANDS, SAMPLE, chain, circle, mixed_demand, mixed_machine, wide
from tests.samples import BAD_MACHINES, BRANCHING, NO_NUMBERS, STILL, fan, marked_ring, path, ring


def reached_pairs(m, d):
    """The pairs that are reached, if the machine keeps the demand; otherwise None."""
    pairs = {(0, 0)}
    while True:
        more = set(pairs)
        for p, q in pairs:
            if offers(m, p) not in d[1][q][0]:
                return None
            more |= {(x, d[1][q][1][a]) for a, x in m[1][p]}
        if more == pairs:
            return tuple(sorted(pairs))
        pairs = more


def words(n, longest):
    """All words up to a length, in their order."""
    for length in range(longest + 1):
        yield from itertools.product(range(n), repeat=length)


def faults_of_word(m, d, word):
    """The states that are faults with a word, one after the other, in the words of the document."""
    q = led_to(d, word)
    return [p for p in led(m, word) if q != -1 and offers(m, p) not in d[1][q][0]]


def first_fault(m, d, longest):
    for word in words(m[0], longest):
        states = faults_of_word(m, d, word)
        if states:
            return ("no", word, states[0])
    return None


class Yes(unittest.TestCase):
    def test_pairs(self):
        self.assertEqual(keeps(STILL, (0, (((0,), ()),))), ("yes", ((0, 0),)))
        self.assertEqual(keeps((2, (((0, 1),), ((1, 0),))), SAMPLE), ("yes", ((0, 0), (1, 1))))
        self.assertEqual(keeps((2, (((0, 1), (1, 0)), ((1, 2),), ())), SAMPLE), ("yes", ((0, 0), (1, 1), (2, 0))))

    def test_rising_pairs_of_states_that_are_reached_several_times(self):
        self.assertEqual(keeps(ring(2), (1, (((1,), (1,)), ((0, 1), (2,)), ((1,), (0,))))),
                         ("yes", ((0, 0), (0, 1), (0, 2), (1, 0), (1, 1), (1, 2))))
        self.assertEqual(keeps(ring(3), (1, (((1,), (1,)), ((1,), (0,))))),
                         ("yes", ((0, 0), (0, 1), (1, 0), (1, 1), (2, 0), (2, 1))))

    def test_several_edges_of_one_letter(self):
        demand = (1, (((1,), (1,)), ((0, 1), (1,))))
        self.assertEqual(keeps((1, (((0, 1), (0, 2)), (), ((0, 1),))), demand), ("yes", ((0, 0), (1, 1), (2, 1))))

    def test_pairs_that_are_not_reached_are_left_out(self):
        self.assertEqual(keeps((1, ((), ((0, 0),))), chain(2)), ("no", (), 0))
        self.assertEqual(keeps((1, ((), ((0, 1),))), (1, (((0,), (1,)), ((), (-1,))))), ("yes", ((0, 0),)))

    def test_the_largest(self):
        machine, demand = fan(400, 15), (1, tuple(((1,), ((at + 1) % 40,)) for at in range(40)))
        began = time.monotonic()
        answer = keeps(machine, demand)
        self.assertEqual(answer, ("yes", tuple(itertools.product(range(400), range(40)))))
        self.assertIs(is_kept(machine, demand, answer), True)
        self.assertLess(time.monotonic() - began, 20)


class LeastFaults(unittest.TestCase):
    def test_the_empty_word(self):
        self.assertEqual(keeps((2, (((1, 0),),)), SAMPLE), ("no", (), 0))
        self.assertEqual(keeps(STILL, nothing(0)), ("no", (), 0))
        self.assertEqual(keeps((1, ((),)), chain(1)), ("no", (), 0))

    def test_words(self):
        self.assertEqual(keeps((2, (((0, 1),), ())), SAMPLE), ("no", (0,), 1))
        self.assertEqual(keeps((2, (((0, 1), (1, 1)), ((1, 2),), ((1, 0),))), SAMPLE), ("no", (1,), 1))
        self.assertEqual(keeps(path(5), (1, (((1,), (0,)),))), ("no", (0,) * 4, 4))

    def test_the_shorter_word_goes_ahead_of_lesser_letters(self):
        machine = (2, (((0, 1), (1, 3)), ((0, 2),), ((0, 4),), ((0, 4),), ()))
        demand = (2, (((1, 3), (0, 0)),))
        self.assertEqual(keeps(machine, demand), ("no", (1, 0), 4))

    def test_the_first_letter_that_differs(self):
        for first, second in itertools.permutations(itertools.product((0, 1), repeat=2), 2):
            rows = [[(0, 1), (1, 2)], [], []]
            for word in (first, second):
                rows[1 + word[0]].append((word[1], 3 if word == first else 4))
            for state in (1, 2):
                rows[state] = rows[state] or [(0, 5)]
            machine = (2, tuple(tuple(sorted(row)) for row in rows) + ((), (), ((0, 5),)))
            demand = (2, (((1, 2, 3), (0, 0)),))
            self.assertEqual(keeps(machine, demand), ("no", min(first, second), 3 if first < second else 4))

    def test_the_letters_that_follow_go_ahead_of_the_state_that_comes_first(self):
        # Behind the letter 0 stand the states 1 and 2; what 2 does by the letter 0 is ahead of what 1 does by 1.
        machine = (2, (((0, 1), (0, 2)), ((1, 3),), ((0, 4),), (), ()))
        demand = (2, (((1, 2), (0, 0)),))
        self.assertEqual(keeps(machine, demand), ("no", (0, 0), 4))

    def test_the_least_state(self):
        machine = (1, (((0, 1), (0, 2), (0, 3)), ((0, 1),), (), ()))
        self.assertEqual(keeps(machine, (1, (((1,), (0,)),))), ("no", (0,), 2))
        crossed = (1, (((0, 1), (0, 2)), ((0, 4), (0, 5)), ((0, 3), (0, 5)), (), (), ((0, 5),)))
        self.assertEqual(keeps(crossed, (1, (((1,), (0,)),))), ("no", (0, 0), 3))

    def test_many_mixed_ones(self):
        numbers = random.Random(3)
        told = {"yes": 0, "no": 0}
        lengths = {}
        for _ in range(3000):
            n = numbers.randrange(1, 4)
            machine = mixed_machine(numbers, n, numbers.randrange(1, 6), numbers.randrange(12))
            demand = mixed_demand(numbers, n, numbers.randrange(1, 5), numbers.randrange(30, 101))
            answer = keeps(machine, demand)
            pairs = reached_pairs(machine, demand)
            told[answer[0]] += 1
            if pairs is None:
                self.assertEqual(answer, first_fault(machine, demand, len(answer[1])), (machine, demand))
                lengths[len(answer[1])] = True
            else:
                self.assertEqual(answer, ("yes", pairs), (machine, demand))
                self.assertIsNone(first_fault(machine, demand, 4))
            self.assertIs(is_kept(machine, demand, answer), True)
        self.assertGreater(min(told.values()), 300)
        self.assertGreater(len(lengths), 4)


class FarFaults(unittest.TestCase):
    """Two rings of unlike sizes: the fault is where both marks meet."""

    def meeting(self, size, mark, other, strict):
        return next(at for at in itertools.count() if at % size == mark and at % other == strict)

    def test_rings(self):
        for size, mark, other, strict in ((7, 3, 5, 1), (13, 12, 40, 39), (21, 0, 20, 1), (37, 5, 40, 30),
                                          (400, 399, 39, 38), (399, 398, 40, 39)):
            machine, demand = marked_ring(size, (mark,)), circle(other, (strict,))
            far = self.meeting(size, mark, other, strict)
            answer = keeps(machine, demand)
            self.assertEqual(answer, ("no", (0,) * far, mark))
            self.assertIs(is_kept(machine, demand, answer), True)
            self.assertIs(is_kept(machine, demand, ("no", (0,) * (far - 1), (mark - 1) % size)), False)
            self.assertIs(is_kept(machine, demand, ("no", (1,) * far, mark)), far == 0)
            again = ("no", (0,) * (far + size * other), mark)
            self.assertIs(is_kept(machine, demand, again), True)

    def test_the_farthest_is_farther_than_the_pairs_of_smaller_rings(self):
        self.assertEqual(self.meeting(399, 398, 40, 39), 15959)

    def test_marks_that_never_meet(self):
        machine, demand = marked_ring(400, (0,)), circle(40, (1,))
        answer = keeps(machine, demand)
        self.assertEqual(answer, ("yes", tuple((at, at % 40) for at in range(400))))

    def test_a_ring_beside_many_edges(self):
        # Each word leads to hundreds of states besides the one in the ring of 199 states, which begins at state 1.
        rows = [((0, 1), (0, 200), (1, 200))]
        rows += [((0, 1 + at % 199),) if at != 7 else ((0, 8), (1, 8)) for at in range(1, 200)]
        rows += [tuple(sorted((0, 200 + (at + step) % 200) for step in range(28))) for at in range(200)]
        states = [((1, 3), (1, 1))]
        states += [(accepts, (ahead[0] + 1,) * 2) for accepts, ahead in circle(39, (31,))[1]]
        machine, demand = (2, tuple(rows)), (2, tuple(states))
        began = time.monotonic()
        answer = keeps(machine, demand)
        self.assertEqual(answer, ("no", (0,) * (1 + self.meeting(199, 6, 39, 31)), 7))
        self.assertEqual(len(answer[1]), 3191)
        self.assertIs(is_kept(machine, demand, answer), True)
        self.assertLess(time.monotonic() - began, 20)


class YesPapers(unittest.TestCase):
    MACHINE = (2, (((0, 1), (1, 0)), ((1, 2),), ()))
    PAIRS = ((0, 0), (1, 1), (2, 0))

    def settles(self, paper):
        told = is_kept(self.MACHINE, SAMPLE, paper)
        self.assertIs(type(told), bool)
        return told

    def test_in_any_order_and_with_equal_pairs(self):
        self.assertEqual(keeps(self.MACHINE, SAMPLE), ("yes", self.PAIRS))
        for length in range(3, 6):
            for pairs in itertools.product(self.PAIRS, repeat=length):
                self.assertIs(self.settles(("yes", pairs)), set(pairs) == set(self.PAIRS))

    def test_one_pair_less(self):
        for at in range(3):
            self.assertIs(self.settles(("yes", self.PAIRS[:at] + self.PAIRS[at + 1:])), False)
        self.assertIs(self.settles(("yes", ())), False)

    def test_one_pair_more_or_changed(self):
        # (0, 1) and (2, 1) are not accepted; behind (1, 0) and the others stand pairs that are not among them.
        for pair in itertools.product(range(-1, 4), range(-1, 4)):
            self.assertIs(self.settles(("yes", self.PAIRS + (pair,))), pair in self.PAIRS)
            for at in range(3):
                changed = self.PAIRS[:at] + (pair,) + self.PAIRS[at + 1:]
                self.assertIs(self.settles(("yes", changed)), changed == self.PAIRS)

    def test_pairs_that_are_not_reached_may_be_among_them(self):
        machine, demand = (1, ((), ((0, 2),), ())), (1, (((0, 1), (0,)), ((0,), (0,))))
        self.assertEqual(keeps(machine, demand), ("yes", ((0, 0),)))
        for pairs, told in ((((0, 0), (0, 1)), True), (((0, 0), (1, 0), (2, 0)), True), (((0, 0), (1, 0)), False),
                            (((0, 0), (1, 1), (2, 0)), False), (((2, 0), (1, 0), (0, 0), (2, 1)), True),
                            (((2, 0), (1, 0)), False), (((0, 1),), False), (((2, 0),), False)):
            self.assertIs(is_kept(machine, demand, ("yes", pairs)), told)

    def test_all_tuples_of_pairs_of_small_ones(self):
        numbers = random.Random(4)
        found = {True: 0, False: 0}
        for _ in range(150):
            machine = mixed_machine(numbers, 2, 2, numbers.randrange(5))
            demand = mixed_demand(numbers, 2, 2, 80)
            for bits in range(16):
                pairs = tuple((at // 2, at % 2) for at in range(4) if (bits >> at) & 1)
                told = self.by_words(machine, demand, pairs)
                found[told] += 1
                self.assertIs(is_kept(machine, demand, ("yes", pairs)), told)
        self.assertGreater(min(found.values()), 100)

    def by_words(self, machine, demand, pairs):
        """Whether pairs are as [3.2] says."""
        for p, q in pairs:
            if offers(machine, p) not in demand[1][q][0]:
                return False
            if any((x, demand[1][q][1][a]) not in pairs for a, x in machine[1][p]):
                return False
        return (0, 0) in pairs

    def test_a_machine_that_does_not_keep_it(self):
        for pairs in ((), ((0, 0),), ((0, 0), (0, 0)), ((0, -1),), ((0, 0), (0, -1))):
            self.assertIs(is_kept((1, ((),)), nothing(1), ("yes", pairs)), False)
            self.assertIs(is_kept(ring(1), nothing(1), ("yes", pairs)), False)

    def test_no_number_in_the_place_of_a_number(self):
        for thing in NO_NUMBERS + (-1, 3, 10 ** 30):
            for at in range(3):
                for pair in ((thing, self.PAIRS[at][1]), (self.PAIRS[at][0], thing)):
                    self.assertIs(self.settles(("yes", self.PAIRS[:at] + (pair,) + self.PAIRS[at + 1:])), False)
                    self.assertIs(self.settles(("yes", self.PAIRS + (pair,))), False)
        self.assertIs(is_kept(STILL, anything(0), ("yes", ((False, False),))), False)
        self.assertIs(is_kept(ring(2), anything(1), ("yes", ((0, 0), (True, 0)))), False)

    def test_things_that_are_no_pair(self):
        for thing in ((), (0,), (0, 0, 0), "", "00", "a", 0, None, True, ((0, 0),), ((0, 0), (0, 0))):
            self.assertIs(self.settles(("yes", self.PAIRS + (thing,))), False)
            self.assertIs(self.settles(("yes", (thing,) + self.PAIRS)), False)
            self.assertIs(self.settles(("yes", (thing,))), False)

    def test_pairs_that_are_no_tuple(self):
        for thing in ("", "00", "yes", 0, 1, None, True, False, list(self.PAIRS)):
            self.assertIs(self.settles(("yes", thing)), False)


class NoPapers(unittest.TestCase):
    # The word (0,) leads to 1, where nothing is offered; the letter 1 leads on.
    MACHINE = (2, (((0, 1), (0, 2)), (), ((0, 0), (1, 0), (1, 1))))

    def settles(self, paper):
        told = is_kept(self.MACHINE, SAMPLE, paper)
        self.assertIs(type(told), bool)
        return told

    def test_any_fault(self):
        self.assertEqual(keeps(self.MACHINE, SAMPLE), ("no", (0,), 1))
        found = {True: 0, False: 0}
        for word in words(2, 9):
            faults = faults_of_word(self.MACHINE, SAMPLE, word)
            for state in range(-1, 4):
                told = state in faults
                found[told] += 1
                self.assertIs(self.settles(("no", word, state)), told)
        self.assertGreaterEqual(min(found.values()), 10)

    def test_faults_behind_other_faults(self):
        demand = (1, (((), (1,)), ((), (2,)), ((0,), (-1,))))
        for length, told in ((0, True), (1, True), (2, True), (3, False), (4, False)):
            self.assertIs(is_kept(ring(3), demand, ("no", (0,) * length, length % 3)), told)

    def test_a_word_that_leads_nowhere_in_the_demand(self):
        for length in range(1, 6):
            self.assertIs(is_kept(ring(1), nothing(1), ("no", (0,) * length, 0)), False)
        last = (1, (((), (1,)), ((), (-1,))))
        self.assertIs(is_kept(ring(1), last, ("no", (0,), 0)), True)
        self.assertIs(is_kept(ring(1), last, ("no", (0, 0), 0)), False)
        self.assertIs(is_kept(ring(1), last, ("no", (0, 0, 0), 0)), False)

    def test_mixed_ones(self):
        numbers = random.Random(5)
        found = {True: 0, False: 0}
        for _ in range(150):
            n = numbers.randrange(1, 4)
            machine = mixed_machine(numbers, n, 4, numbers.randrange(2, 14))
            demand = mixed_demand(numbers, n, 3, 50)
            for word in words(n, 3):
                faults = faults_of_word(machine, demand, word)
                for state in range(4):
                    found[state in faults] += 1
                    self.assertIs(is_kept(machine, demand, ("no", word, state)), state in faults)
        self.assertGreater(min(found.values()), 500)

    def test_a_machine_that_keeps_it(self):
        for length in (0, 1, 2, 7, 300):
            self.assertIs(is_kept(ring(2), anything(1), ("no", (0,) * length, length % 2)), False)

    def test_words_of_more_than_200_letters(self):
        for length in (199, 200, 201, 202, 1000, 20000):
            for state in range(3):
                paper = ("no", (0,) * length, state)
                told = length % 3 == state and length % 2 == 1
                self.assertIs(is_kept(ring(3), (1, (((1,), (1,)), ((0,), (0,)))), paper), told)

    def test_no_number_in_the_place_of_a_number(self):
        word = (0, 1, 0)
        self.assertIs(self.settles(("no", word, 1)), True)
        self.assertIs(self.settles(("no", word, 2)), True)
        for thing in NO_NUMBERS + (-1, 3, 10 ** 30):
            for at in range(3):
                self.assertIs(self.settles(("no", word[:at] + (thing,) + word[at + 1:], 1)), False)
            self.assertIs(self.settles(("no", word, thing)), False)
        self.assertIs(is_kept(STILL, nothing(0), ("no", (), 0)), True)
        self.assertIs(is_kept(STILL, nothing(0), ("no", (), False)), False)
        self.assertIs(is_kept((2, (((1, 1),), ())), (2, (((2,), (0, 0)),)), ("no", (1,), True)), False)
        self.assertIs(is_kept((2, (((1, 1),), ())), (2, (((2,), (0, 0)),)), ("no", (True,), 1)), False)

    def test_words_that_are_no_tuple(self):
        for thing in ("", "0", "a", 0, None, True, False, [0]):
            self.assertIs(self.settles(("no", thing, 1)), False)
            self.assertIs(self.settles(("no", thing, 0)), False)


class OtherPapers(unittest.TestCase):
    def test_forms(self):
        machine, demand = ring(2), (1, (((1,), (0,)),))
        pairs = ((0, 0), (1, 0))
        self.assertIs(is_kept(machine, demand, ("yes", pairs)), True)
        for first in ("no", "", "Yes", "YES", "yes ", "y", "yea", 1, 0, None, True, False, (), ("yes",), (("yes",),)):
            self.assertIs(is_kept(machine, demand, (first, pairs)), False)
        for paper in ((), ("yes",), ("yes", pairs, ()), ("yes", pairs, 0), ("yes", (), pairs), ("yes", pairs, pairs),
                      (pairs,), pairs, (pairs, "yes"), ("yes",) + pairs, (("yes", pairs),), ("no", pairs),
                      ("no", (), 0, "yes")):
            self.assertIs(is_kept(machine, demand, paper), False)

    def test_forms_of_faults(self):
        machine, demand = path(2), (1, (((1,), (0,)),))
        self.assertIs(is_kept(machine, demand, ("no", (0,), 1)), True)
        for first in ("yes", "", "No", "NO", "no ", "n", 1, 0, None, True, False, (), ("no",)):
            self.assertIs(is_kept(machine, demand, (first, (0,), 1)), False)
        for paper in (("no",), ("no", (0,)), ("no", ((0,), 1)), ("no", (0,), 1, 1), ("no", 1, (0,)), ((0,), 1),
                      ("no", 0, 1), (("no", (0,), 1),), ("no", ((0,),), 1), ("no", (0,), (1,)), ("no", (0,), "1")):
            self.assertIs(is_kept(machine, demand, paper), False)

    def test_what_is_no_tuple(self):
        for paper in ("", "yes", "no", "yesno", 0, 1, None, True, False, ["yes", ((0, 0),)]):
            self.assertIs(is_kept(ring(1), anything(1), paper), False)


class Refused(unittest.TestCase):
    def each(self, error, machine, demand):
        self.assertRaises(error, keeps, machine, demand)
        for paper in (("yes", ((0, 0),)), ("no", (), 0), (), None):
            self.assertRaises(error, is_kept, machine, demand, paper)

    def test_the_machine_goes_first(self):
        for name, thing in BAD_MACHINES.items():
            with self.subTest(name):
                self.each(BadMachine, thing, SAMPLE)
                self.each(BadMachine, thing, nothing(5))
                self.each(BadMachine, thing, None)
                self.each(BadMachine, thing, chain(41))

    def test_the_demand_goes_ahead_of_unlike_letters(self):
        for name, thing in BAD_DEMANDS.items():
            with self.subTest(name):
                for machine in (STILL, ring(1), BRANCHING, (5, ((),))):
                    self.each(BadDemand, machine, thing)

    def test_unlike_letters(self):
        for n in range(6):
            for other in range(6):
                if n != other:
                    self.each(BadLetters, (n, ((),)), anything(other))
                    self.each(BadLetters, (n, ((),)), nothing(other))

    def test_a_machine_is_no_demand(self):
        self.each(BadDemand, ring(2), ring(2))
        self.each(BadMachine, SAMPLE, SAMPLE)


class Wide(unittest.TestCase):
    def test_nearly_all_sets(self):
        for left_out in (0, 1, 16, 30, 31):
            demand = wide(5, 40, left_out)
            rows = []
            for at in range(400):
                bits = at % 32 if at % 32 != left_out else (left_out + 1) % 32
                rows.append(tuple((letter, (at * 7 + letter * 3 + 1) % 400) for letter in range(5) if (bits >> letter) & 1))
            answer = keeps((5, tuple(rows)), demand)
            self.assertEqual(answer[0], "yes")
            self.assertIs(is_kept((5, tuple(rows)), demand, answer), True)


if __name__ == "__main__":
    unittest.main()
