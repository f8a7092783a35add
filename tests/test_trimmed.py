"""[4.2] and [4.3]: the trimmed demand, and machines that keep a demand."""

import itertools
import random
import unittest

from spandrel.demand import anything, check_demand, nothing, only
from spandrel.errors import BadDemand, BadSet, BadWord
from spandrel.hollow import hollow, some, trimmed, with_word
from spandrel.keeping import keeps
from spandrel.machine import check_machine, led, offers
from tests.demands import BAD_DEMANDS, GOOD_DEMANDS, SAMPLE, chain, every_set, mixed_demand, mixed_machine, wide
from tests.samples import NO_NUMBERS, STILL, machines_of, path, ring


def trimmed_by_words(demand):
    """The trimmed demand, told in the words of the document."""
    n, states = demand
    under = hollow(demand)
    if 0 in under:
        return nothing(n)
    accepts = []
    for sets, ahead in states:
        accepts.append([bits for bits in sets
                        if not any((bits >> letter) & 1 and ahead[letter] in under for letter in range(n))])
    order = [0]
    told = []
    while len(told) < len(order):
        at = order[len(told)]
        used = [letter for letter in range(n) if any((bits >> letter) & 1 for bits in accepts[at])]
        for letter in used:
            if states[at][1][letter] not in order:
                order.append(states[at][1][letter])
        told.append((tuple(accepts[at]), [states[at][1][letter] if letter in used else -1 for letter in range(n)]))
    return (n, tuple((sets, tuple(-1 if to == -1 else order.index(to) for to in ahead)) for sets, ahead in told))


def mixed_demands(start, many):
    numbers = random.Random(start)
    for _ in range(many):
        yield mixed_demand(numbers, numbers.randrange(5), numbers.randrange(1, 10), numbers.randrange(5, 90))


class Trimmed(unittest.TestCase):
    def test_named_ones(self):
        for n in range(6):
            self.assertEqual(trimmed(anything(n)), anything(n))
            self.assertEqual(trimmed(nothing(n)), nothing(n))
            self.assertEqual(trimmed((n, (((), (0,) * n),))), nothing(n))
        self.assertEqual(trimmed(SAMPLE), (2, SAMPLE[1][:2]))

    def test_nothing_if_the_first_state_is_hollow(self):
        for size in (1, 2, 40):
            self.assertEqual(trimmed(chain(size)), nothing(1))
        self.assertEqual(trimmed((2, (((1, 3), (1, 0)), ((), (1, 1)), ((0,), (0, 0))))), nothing(2))

    def test_sets_that_fall_are_left_out(self):
        demand = (2, (((0, 1, 2, 3), (1, 0)), ((), (-1, -1))))
        self.assertEqual(trimmed(demand), (2, (((0, 2), (-1, 0)),)))
        demand = (2, (((0, 1, 2, 3), (1, 2)), ((1,), (2, -1)), ((), (0, 0))))
        self.assertEqual(trimmed(demand), (2, (((0,), (-1, -1)),)))

    def test_letters_in_no_set_lead_nowhere(self):
        self.assertEqual(trimmed((2, (((0, 1), (0, 0)),))), (2, (((0, 1), (0, -1)),)))
        self.assertEqual(trimmed((2, (((0,), (0, 1)), ((0,), (0, 0))))), (2, (((0,), (-1, -1)),)))
        self.assertEqual(trimmed((3, (((5,), (1, 1, 0)), ((0,), (0, 0, 0))))),
                         (3, (((5,), (1, -1, 0)), ((0,), (-1, -1, -1)))))

    def test_numbered_as_they_are_found(self):
        demand = (2, (((3,), (3, 2)), ((0,), (0, 0)), ((1,), (4, 1)), ((0, 2), (1, 0)), ((0,), (-1, -1))))
        self.assertEqual(trimmed(demand), (2, (((3,), (1, 2)), ((0, 2), (-1, 0)), ((1,), (3, -1)), ((0,), (-1, -1)))))

    def test_a_state_found_behind_a_set_that_falls_alone_is_left_out(self):
        # The letter 1 stands only beside the letter 0, which leads to a hollow state.
        demand = (2, (((0, 3), (1, 2)), ((), (-1, -1)), ((0,), (-1, -1))))
        self.assertEqual(trimmed(demand), (2, (((0,), (-1, -1)),)))

    def test_samples(self):
        for name, demand in GOOD_DEMANDS.items():
            with self.subTest(name):
                self.whole(demand)
        for left_out in every_set(5):
            self.whole(wide(5, 40, left_out))

    def test_mixed_ones(self):
        less = 0
        for demand in mixed_demands(10, 600):
            self.whole(demand)
            less += 1 < len(trimmed(demand)[1]) < len(demand[1])
        self.assertGreater(less, 30)

    def whole(self, demand):
        told = trimmed(demand)
        self.assertIsNone(check_demand(told))
        self.assertEqual(told, trimmed_by_words(demand))
        self.assertEqual(trimmed(told), told)
        self.assertEqual(hollow(told), [0] if 0 in hollow(demand) else [])

    def test_the_same_machines_keep_it(self):
        numbers = random.Random(11)
        found = {"yes": 0, "no": 0}
        for _ in range(2000):
            n = numbers.randrange(1, 4)
            demand = mixed_demand(numbers, n, numbers.randrange(1, 5), numbers.randrange(30, 101))
            machine = mixed_machine(numbers, n, numbers.randrange(1, 5), numbers.randrange(8))
            told = keeps(machine, demand)[0]
            found[told] += 1
            self.assertEqual(keeps(machine, trimmed(demand))[0], told)
        self.assertGreater(min(found.values()), 300)

    def test_the_same_small_machines_keep_it(self):
        machines = machines_of(2, 2)[::3]
        for demand in ((2, (((0, 1, 3), (1, 0)), ((2, 3), (2, 0)), ((), (-1, -1)))), SAMPLE):
            answers = [keeps(machine, demand)[0] for machine in machines]
            self.assertEqual([keeps(machine, trimmed(demand))[0] for machine in machines], answers)
            self.assertEqual(set(answers), {"yes", "no"})


class Some(unittest.TestCase):
    def test_named_ones(self):
        for n in range(6):
            self.of(anything(n), True)
            self.of(nothing(n), False)
            for bits in every_set(n):
                self.of((n, (((bits,), (0,) * n),)), True)
        self.of(SAMPLE, True)
        self.of(only(ring(40)), True)
        self.of(only(path(40)), True)
        self.of(chain(40), False)

    def test_just_if_the_first_state_is_not_hollow(self):
        found = {True: 0, False: 0}
        for demand in mixed_demands(12, 600):
            told = 0 not in hollow(demand)
            found[told] += 1
            self.of(demand, told)
        self.assertGreater(min(found.values()), 50)

    def test_nearly_all_sets(self):
        for left_out in every_set(5):
            self.of(wide(5, 40, left_out), True)

    def of(self, demand, told):
        machine = some(demand)
        if not told:
            self.assertIsNone(machine)
        else:
            self.assertIsNone(check_machine(machine))
            self.assertEqual(machine[0], demand[0])
            self.assertEqual(keeps(machine, demand)[0], "yes")


class WithWord(unittest.TestCase):
    def of(self, demand, word, bits, told):
        machine = with_word(demand, word, bits)
        if not told:
            self.assertIsNone(machine)
        else:
            self.assertIsNone(check_machine(machine))
            self.assertEqual(keeps(machine, demand)[0], "yes")
            self.assertIn(bits, [offers(machine, state) for state in led(machine, word)])

    def test_each_set_of_anything(self):
        for n in range(6):
            for bits in every_set(n):
                for word in ((), tuple(range(n)), tuple(range(n))[::-1] * 3, (0,) * (200 if n else 0)):
                    self.of(anything(n), word, bits, True)
                    self.of(nothing(n), word, bits, False)

    def test_sample(self):
        for word, accepted in (((), (0, 1, 3)), ((0,), (2,)), ((1,), (0, 1, 3)), ((0, 0), ()), ((0, 1), (0, 1, 3)),
                               ((1, 1, 0, 1, 0), (2,)), ((1, 0, 0, 1), ()), ((0, 1) * 100, (0, 1, 3)),
                               ((1,) * 199 + (0,), (2,)), ((1,) * 198 + (0, 0), ())):
            for bits in range(4):
                self.of(SAMPLE, word, bits, bits in accepted)

    def test_sets_that_fall(self):
        demand = (2, (((0, 1, 2, 3), (1, 0)), ((1,), (2, -1)), ((), (-1, -1))))
        for word, accepted in (((), (0, 2)), ((1,), (0, 2)), ((1,) * 200, (0, 2)), ((0,), ()), ((1, 0), ()),
                               ((0, 0), ())):
            for bits in range(4):
                self.of(demand, word, bits, bits in accepted)

    def test_a_letter_that_stands_only_beside_one_that_falls(self):
        demand = (2, (((0, 3), (1, 2)), ((), (-1, -1)), ((0,), (-1, -1))))
        self.of(demand, (1,), 0, False)
        self.of(demand, (), 0, True)
        self.of(demand, (), 3, False)

    def test_letters_of_no_accepted_set(self):
        self.of((2, (((0, 1), (0, 0)),)), (1,), 0, False)
        self.of((2, (((0, 1), (0, 0)),)), (0, 0), 1, True)

    def test_no_letters(self):
        self.of(anything(0), (), 0, True)
        self.of(nothing(0), (), 0, False)

    def test_the_longest_words_of_the_largest_demands(self):
        for left_out in every_set(5):
            demand = wide(5, 40, left_out)
            for word in ((0,) * 200, (4,) * 200, (0, 1, 2, 3, 4) * 40):
                for bits in (0, 7, 31):
                    self.of(demand, word, bits, bits != left_out)

    def test_long_ways(self):
        self.of(only(ring(40)), (0,) * 200, 1, True)
        self.of(only(ring(40)), (0,) * 200, 0, False)
        self.of(only(path(40)), (0,) * 39, 0, True)
        self.of(only(path(40)), (0,) * 39, 1, False)
        self.of(only(path(40)), (0,) * 40, 0, False)
        self.of(chain(40), (0,) * 39, 0, False)

    def test_just_if_a_machine_does(self):
        machines = {0: machines_of(0, 2), 1: machines_of(1, 3), 2: machines_of(2, 2)[::2]}
        numbers = random.Random(13)
        found = {True: 0, False: 0}
        for _ in range(60):
            n = numbers.randrange(3)
            demand = mixed_demand(numbers, n, 2, numbers.randrange(20, 70))
            words = [word for length in range(3) for word in itertools.product(range(n), repeat=length)]
            done = set()
            for machine in machines[n]:
                if keeps(machine, demand)[0] == "yes":
                    done |= {(word, offers(machine, state)) for word in words for state in led(machine, word)}
            for word, bits in itertools.product(words, every_set(n)):
                told = with_word(demand, word, bits) is not None
                found[told] += 1
                self.of(demand, word, bits, told)
                if (word, bits) in done:
                    self.assertTrue(told)
                elif n < 2:
                    # Of two letters, not all machines that may be needed are among those looked at.
                    self.assertFalse(told)
        self.assertGreater(min(found.values()), 100)

    def test_just_if_the_trimmed_demand_accepts_it_there(self):
        numbers = random.Random(14)
        found = {True: 0, False: 0}
        for demand in mixed_demands(15, 400):
            n, states = trimmed_by_words(demand)
            for _ in range(10):
                word = tuple(numbers.randrange(n) for _ in range(numbers.randrange(5) if n else 0))
                bits = numbers.randrange(2 ** n)
                at = 0
                for letter in word:
                    at = at if at == -1 else states[at][1][letter]
                told = at != -1 and bits in states[at][0]
                found[told] += 1
                self.of(demand, word, bits, told)
        self.assertGreater(min(found.values()), 300)


class Refused(unittest.TestCase):
    def test_the_demand_then_the_word_then_the_set(self):
        for demand in BAD_DEMANDS.values():
            self.assertRaises(BadDemand, with_word, demand, (7,), 99)
        for demand in (SAMPLE, anything(2), nothing(2)):
            for word in ((2,), (0, -1), (True,), (0, False), [0], "", None, (0,) * 201, ("a",), ((),), ((0,),)):
                for bits in (0, 3, 4, -1, None, True):
                    self.assertRaises(BadWord, with_word, demand, word, bits)
            for word in ((), (0,), (1, 1), (0,) * 200):
                for bits in NO_NUMBERS + (-1, 4, 5, 10 ** 30, [0]):
                    self.assertRaises(BadSet, with_word, demand, word, bits)

    def test_bounds_of_sets(self):
        for n in range(6):
            for demand in (anything(n), nothing(n)):
                self.assertRaises(BadSet, with_word, demand, (), 2 ** n)
                self.assertRaises(BadSet, with_word, demand, (), -1)
                self.assertRaises(BadSet, with_word, demand, (), True)
                self.assertRaises(BadSet, with_word, demand, (), False)
        self.assertRaises(BadWord, with_word, anything(0), (0,), 0)

    def test_a_word_that_leads_nowhere_does_not_hide_a_wrong_set(self):
        self.assertRaises(BadSet, with_word, SAMPLE, (0, 0), 4)
        self.assertIsNone(with_word(SAMPLE, (0, 0), 3))

    def test_machines(self):
        self.assertRaises(BadDemand, trimmed, STILL)
        self.assertRaises(BadDemand, some, STILL)


if __name__ == "__main__":
    unittest.main()
