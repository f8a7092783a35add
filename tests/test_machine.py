"""[2.1] and [2.2]: machines, what they offer, and where words lead."""

import copy
import itertools
import unittest

from spandrel.errors import BadMachine, BadState, BadWord
from spandrel.machine import alike, check_machine, led, offers, pairs_of, product
from tests.samples import BAD_MACHINES, BRANCHING, GOOD_MACHINES, NO_NUMBERS, STILL
from tests.samples import path, ring


class Check(unittest.TestCase):
    def test_machines(self):
        for name, machine in GOOD_MACHINES.items():
            with self.subTest(name):
                self.assertIsNone(check_machine(machine))

    def test_the_samples_are_at_the_bounds(self):
        self.assertEqual(len(GOOD_MACHINES["400 rows"][1]), 400)
        self.assertEqual(len(BAD_MACHINES["401 rows"][1]), 401)
        self.assertEqual(sum(len(row) for row in GOOD_MACHINES["6000 edges"][1]), 6000)
        self.assertEqual(sum(len(row) for row in BAD_MACHINES["6001 edges"][1]), 6001)

    def test_what_is_no_machine(self):
        for name, thing in BAD_MACHINES.items():
            with self.subTest(name):
                self.assertRaises(BadMachine, check_machine, thing)

    def test_lists_in_the_place_of_tuples(self):
        for thing in ([1, ((),)], (1, [()]), (1, ([],)), (1, ([(0, 0)],)), (1, (([0, 0],),))):
            with self.subTest(repr(thing)):
                self.assertRaises(BadMachine, check_machine, thing)

    def test_each_number_of_a_machine_replaced(self):
        for thing in NO_NUMBERS + (-1, 6, 10 ** 30):
            for at in range(len(BRANCHING[1][0])):
                for side in range(2):
                    edge = list(BRANCHING[1][0][at])
                    edge[side] = thing
                    row = BRANCHING[1][0][:at] + (tuple(edge),) + BRANCHING[1][0][at + 1:]
                    with self.subTest(repr(row)):
                        self.assertRaises(BadMachine, check_machine, (2, (row,) + BRANCHING[1][1:]))

    def test_a_machine_stays_as_it_was(self):
        kept = copy.deepcopy(BRANCHING)
        check_machine(BRANCHING)
        offers(BRANCHING, 0)
        led(BRANCHING, (0, 1))
        product(BRANCHING, BRANCHING)
        pairs_of(BRANCHING, BRANCHING)
        alike(BRANCHING, BRANCHING)
        self.assertEqual(BRANCHING, kept)


class Refused(unittest.TestCase):
    def test_one_machine_ahead_of_anything_else(self):
        for name, thing in BAD_MACHINES.items():
            with self.subTest(name):
                self.assertRaises(BadMachine, offers, thing, 0)
                self.assertRaises(BadMachine, offers, thing, None)
                self.assertRaises(BadMachine, led, thing, ())
                self.assertRaises(BadMachine, led, thing, None)

    def test_either_of_two_machines_ahead_of_anything_else(self):
        for function in (product, pairs_of, alike):
            for name, thing in BAD_MACHINES.items():
                for other in (STILL, BRANCHING, ring(399), (5, ((),))):
                    with self.subTest(name, function=function.__name__):
                        self.assertRaises(BadMachine, function, thing, other)
                        self.assertRaises(BadMachine, function, other, thing)
                with self.subTest(name, function=function.__name__):
                    self.assertRaises(BadMachine, function, thing, thing)


class Offers(unittest.TestCase):
    def test_the_set(self):
        self.assertEqual([offers(BRANCHING, state) for state in range(3)], [3, 3, 0])
        self.assertEqual(offers(STILL, 0), 0)
        self.assertEqual(offers(ring(400), 399), 1)
        self.assertEqual(offers((5, (((0, 0), (2, 0), (4, 0)),)), 0), 21)

    def test_every_set(self):
        for n in range(6):
            for bits in range(2 ** n):
                row = tuple((letter, 1) for letter in range(n) if (bits >> letter) & 1)
                self.assertEqual(offers((n, ((), row)), 1), bits)

    def test_several_edges_of_one_letter_count_once(self):
        self.assertEqual(offers((3, (((1, 0), (1, 1), (1, 2)), (), ())), 0), 2)

    def test_what_is_no_state(self):
        for thing in NO_NUMBERS + (3, 4, -1, -3, 10 ** 30):
            with self.subTest(repr(thing)):
                self.assertRaises(BadState, offers, BRANCHING, thing)


class Led(unittest.TestCase):
    def test_the_empty_word(self):
        for name, machine in GOOD_MACHINES.items():
            with self.subTest(name):
                self.assertEqual(led(machine, ()), [0])

    def test_words_that_lead_nowhere(self):
        self.assertEqual(led((1, ((),)), (0,)), [])
        self.assertEqual(led((1, ((),)), (0, 0, 0)), [])
        self.assertEqual(led(BRANCHING, (1, 0)), [])
        self.assertEqual(led(BRANCHING, (0, 1, 1, 1, 1)), [])

    def test_words_that_lead_to_several_states(self):
        self.assertEqual(led(BRANCHING, (0,)), [0, 1, 2])
        self.assertEqual(led(BRANCHING, (0, 1)), [0, 2])
        self.assertEqual(led(BRANCHING, (0, 1, 0)), [0, 1, 2])
        self.assertEqual(led(BRANCHING, (1,)), [2])

    def test_the_states_are_rising_though_found_in_another_order(self):
        crossed = (1, (((0, 1), (0, 2)), ((0, 4),), ((0, 3),), (), ()))
        self.assertEqual(led(crossed, (0, 0)), [3, 4])
        for far in range(2, 100):
            apart = (1, (((0, 1), (0, far)),) + ((),) * far)
            self.assertEqual(led(apart, (0,)), [1, far])

    def test_long_words(self):
        self.assertEqual(led(path(400), (0,) * 200), [200])
        self.assertEqual(led(path(200), (0,) * 200), [])
        self.assertEqual(led(BRANCHING, (0,) * 200), [0, 1, 2])

    def test_words_of_all_short_lengths(self):
        for length in range(6):
            for word in itertools.product(range(2), repeat=length):
                self.assertEqual(led(BRANCHING, word), self.led_by_ways(word))

    def led_by_ways(self, word):
        """Tries each tuple of states as a way."""
        ends = set()
        for way in itertools.product(range(3), repeat=len(word)):
            steps = zip((0,) + way, word, way)
            if all((letter, to) in BRANCHING[1][state] for state, letter, to in steps):
                ends.add(((0,) + way)[-1])
        return sorted(ends)

    def test_each_told_list_is_new(self):
        for word in ((), (0,), (1, 0)):
            first = led(BRANCHING, word)
            kept = list(first)
            first.append(7)
            self.assertEqual(led(BRANCHING, word), kept)

    def test_words_that_are_too_long(self):
        self.assertRaises(BadWord, led, ring(3), (0,) * 201)
        self.assertRaises(BadWord, led, (1, ((),)), (0,) * 201)

    def test_what_is_no_tuple(self):
        for thing in ([], [0], "", "0", None, True, False, 0):
            with self.subTest(repr(thing)):
                self.assertRaises(BadWord, led, BRANCHING, thing)

    def test_a_thing_that_is_no_letter_at_any_place(self):
        for thing in NO_NUMBERS + (2, 3, -1, 10 ** 30):
            for word in ((0, 0, 0), (1, 0, 0), (0,) * 200):
                for at in range(len(word)):
                    with self.subTest(repr(thing), at=at):
                        self.assertRaises(BadWord, led, BRANCHING, word[:at] + (thing,) + word[at + 1:])
        self.assertRaises(BadWord, led, STILL, (0,))


if __name__ == "__main__":
    unittest.main()
