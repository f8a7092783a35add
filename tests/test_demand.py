"""[3.1] and [3.4]: demands, their led states, anything and nothing."""

import copy
import itertools
import random
import unittest

from spandrel.demand import anything, check_demand, led_to, nothing
from spandrel.errors import BadDemand, BadWord
from spandrel.hollow import hollow, is_ladder, ladder, some, trimmed, with_word
from spandrel.keeping import is_kept, keeps
from tests.demands import BAD_DEMANDS, GOOD_DEMANDS, SAMPLE, chain, every_set, mixed_demand
from tests.samples import BRANCHING, NO_NUMBERS, STILL


class Check(unittest.TestCase):
    def test_demands(self):
        for name, demand in GOOD_DEMANDS.items():
            with self.subTest(name):
                self.assertIsNone(check_demand(demand))

    def test_each_set_alone(self):
        for n in range(6):
            for bits in every_set(n):
                self.assertIsNone(check_demand((n, (((bits,), (0,) * n),))))
                ahead = tuple(0 if (bits >> letter) & 1 else -1 for letter in range(n))
                self.assertIsNone(check_demand((n, (((bits,), ahead),))))
                for letter in range(n):
                    less = ahead[:letter] + (-1,) + ahead[letter + 1:]
                    if less != ahead:
                        self.assertRaises(BadDemand, check_demand, (n, (((bits,), less),)))

    def test_mixed_demands(self):
        numbers = random.Random(1)
        for _ in range(300):
            demand = mixed_demand(numbers, numbers.randrange(6), numbers.randrange(1, 41), numbers.randrange(101))
            self.assertIsNone(check_demand(demand))

    def test_the_samples_are_at_the_bounds(self):
        self.assertEqual(len(GOOD_DEMANDS["40 states"][1]), 40)
        self.assertEqual(len(BAD_DEMANDS["41 states"][1]), 41)

    def test_what_is_no_demand(self):
        for name, thing in BAD_DEMANDS.items():
            with self.subTest(name):
                self.assertRaises(BadDemand, check_demand, thing)

    def test_lists_in_the_place_of_tuples(self):
        for thing in ([1, (((1,), (0,)),)], (1, [((1,), (0,))]), (1, ([(1,), (0,)],)),
                      (1, (([1], (0,)),)), (1, (((1,), [0]),))):
            with self.subTest(repr(thing)):
                self.assertRaises(BadDemand, check_demand, thing)

    def test_each_number_of_a_demand_replaced(self):
        for thing in NO_NUMBERS + (-2, 32, 10 ** 30):
            for at, (accepts, ahead) in enumerate(SAMPLE[1]):
                for place in range(len(accepts)):
                    self.replaced(at, (accepts[:place] + (thing,) + accepts[place + 1:], ahead))
                for letter in range(2):
                    self.replaced(at, (accepts, ahead[:letter] + (thing,) + ahead[letter + 1:]))
            self.assertRaises(BadDemand, check_demand, (thing, SAMPLE[1]))

    def replaced(self, at, state):
        thing = (2, SAMPLE[1][:at] + (state,) + SAMPLE[1][at + 1:])
        with self.subTest(repr(thing)):
            self.assertRaises(BadDemand, check_demand, thing)

    def test_each_other_number_of_letters(self):
        for n in (0, 1, 3, 4, 5):
            self.assertRaises(BadDemand, check_demand, (n, SAMPLE[1]))

    def test_a_demand_stays_as_it_was(self):
        kept = copy.deepcopy(SAMPLE)
        for function in (check_demand, hollow, ladder, trimmed, some):
            function(SAMPLE)
        led_to(SAMPLE, (0, 1))
        is_ladder(SAMPLE, (2,))
        with_word(SAMPLE, (0, 1), 3)
        is_kept(BRANCHING, SAMPLE, keeps(BRANCHING, SAMPLE))
        self.assertEqual(SAMPLE, kept)


class Refused(unittest.TestCase):
    def test_a_demand_ahead_of_words_and_sets(self):
        for name, thing in BAD_DEMANDS.items():
            with self.subTest(name):
                for word in ((), (0,), None, (7,)):
                    self.assertRaises(BadDemand, led_to, thing, word)
                    for bits in (0, -1, None):
                        self.assertRaises(BadDemand, with_word, thing, word, bits)
                for states in ((), (0,), None, (7,)):
                    self.assertRaises(BadDemand, is_ladder, thing, states)
                for function in (hollow, ladder, trimmed, some):
                    self.assertRaises(BadDemand, function, thing)


class LedTo(unittest.TestCase):
    def test_the_empty_word(self):
        for name, demand in GOOD_DEMANDS.items():
            with self.subTest(name):
                self.assertEqual(led_to(demand, ()), 0)

    def test_states(self):
        self.assertEqual(led_to(SAMPLE, (0,)), 1)
        self.assertEqual(led_to(SAMPLE, (1,)), 0)
        self.assertEqual(led_to(SAMPLE, (0, 1)), 0)
        self.assertEqual(led_to(SAMPLE, (1, 1, 0, 1, 0)), 1)

    def test_nowhere_and_all_that_follows(self):
        demand = (2, (((1,), (1, -1)), ((), (-1, 2)), ((3,), (0, 1))))
        for word in ((1,), (0, 0), (0, 1, 0, 1)):
            self.assertEqual(led_to(demand, word), -1)
            for length in range(5):
                for more in itertools.product((0, 1), repeat=length):
                    self.assertEqual(led_to(demand, word + more), -1)
        self.assertEqual(led_to(demand, (1,) + (0,) * 199), -1)
        self.assertEqual(led_to(nothing(5), (4, 3)), -1)

    def test_letters_in_no_accepted_set_lead_too(self):
        self.assertEqual(led_to((2, (((), (1, -1)), ((), (2, 0)), ((0,), (-1, 1)))), (0, 0, 1, 1)), 0)

    def test_long_words(self):
        self.assertEqual(led_to(chain(40), (0,) * 39), 39)
        self.assertEqual(led_to(chain(40), (0,) * 40), -1)
        self.assertEqual(led_to(chain(40), (0,) * 200), -1)
        ring = (1, tuple(((1,), ((at + 1) % 37,)) for at in range(37)))
        for length in range(201):
            self.assertEqual(led_to(ring, (0,) * length), length % 37)

    def test_words_that_are_too_long(self):
        for demand in (anything(1), nothing(1), chain(3)):
            self.assertRaises(BadWord, led_to, demand, (0,) * 201)

    def test_what_is_no_tuple(self):
        for thing in ([], [0], "", "0", None, True, False, 0):
            with self.subTest(repr(thing)):
                self.assertRaises(BadWord, led_to, SAMPLE, thing)

    def test_a_thing_that_is_no_letter_at_any_place(self):
        for thing in NO_NUMBERS + (2, 3, -1, 10 ** 30):
            for word in ((0, 0, 0), (1, 0, 0), (0,) * 200):
                for at in range(len(word)):
                    self.assertRaises(BadWord, led_to, SAMPLE, word[:at] + (thing,) + word[at + 1:])
        self.assertRaises(BadWord, led_to, anything(0), (0,))

    def test_a_wrong_letter_behind_minus_one(self):
        self.assertRaises(BadWord, led_to, nothing(2), (0, 0, 2))


class Plain(unittest.TestCase):
    def test_anything(self):
        for n in range(6):
            self.assertEqual(anything(n), (n, ((tuple(range(2 ** n)), (0,) * n),)))
            self.assertIsNone(check_demand(anything(n)))

    def test_nothing(self):
        for n in range(6):
            self.assertEqual(nothing(n), (n, (((), (-1,) * n),)))
            self.assertIsNone(check_demand(nothing(n)))

    def test_named_ones(self):
        self.assertEqual(anything(0), (0, (((0,), ()),)))
        self.assertEqual(nothing(0), (0, (((), ()),)))
        self.assertEqual(anything(2), (2, (((0, 1, 2, 3), (0, 0)),)))
        self.assertEqual(nothing(2), (2, (((), (-1, -1)),)))

    def test_machines_under_them(self):
        self.assertEqual(keeps(STILL, anything(0)), ("yes", ((0, 0),)))
        self.assertEqual(keeps(STILL, nothing(0)), ("no", (), 0))
        self.assertEqual(keeps(BRANCHING, anything(2)), ("yes", ((0, 0), (1, 0), (2, 0))))
        self.assertEqual(keeps(BRANCHING, nothing(2)), ("no", (), 0))


if __name__ == "__main__":
    unittest.main()
