"""[1.1] and [1.2]: letters, sets and words."""

import itertools
import unittest

from spandrel.errors import BadLetters, BadSet, BadWord
from spandrel.letters import bits_of, check_same_letters, check_set, check_word, full_set, is_word, members
from tests.samples import NO_NUMBERS


class Sets(unittest.TestCase):
    def test_every_set_of_every_number_of_letters(self):
        for n in range(6):
            sets = []
            for size in range(n + 1):
                sets.extend(itertools.combinations(range(n), size))
            self.assertEqual(len(sets), 2 ** n)
            for letters in sets:
                with self.subTest(n=n, letters=letters):
                    bits = sum(2 ** letter for letter in letters)
                    self.assertEqual(members(n, bits), list(letters))
                    self.assertEqual(bits_of(list(letters)), bits)

    def test_named_sets(self):
        self.assertEqual(members(0, 0), [])
        self.assertEqual(members(5, 0), [])
        self.assertEqual(members(5, 31), [0, 1, 2, 3, 4])
        self.assertEqual(members(5, 16), [4])
        self.assertEqual(members(3, 5), [0, 2])
        self.assertEqual(bits_of([]), 0)
        self.assertEqual(bits_of([4]), 16)

    def test_lists_in_any_order(self):
        for letters in itertools.permutations((0, 1, 3, 4)):
            self.assertEqual(bits_of(list(letters)), 1 + 2 + 8 + 16)

    def test_lists_with_equal_letters(self):
        self.assertEqual(bits_of([0, 0]), 1)
        self.assertEqual(bits_of([4, 4, 4]), 16)
        self.assertEqual(bits_of([2, 0, 2, 1, 0]), 7)
        for letters in itertools.product(range(5), repeat=3):
            self.assertEqual(bits_of(list(letters)), sum(2 ** letter for letter in set(letters)))

    def test_the_list_handed_in_stays_as_it_was(self):
        letters = [3, 1, 3, 0]
        bits_of(letters)
        self.assertEqual(letters, [3, 1, 3, 0])

    def test_each_told_list_is_new(self):
        for n in range(6):
            for bits in range(2 ** n):
                first = members(n, bits)
                kept = list(first)
                first.append(7)
                self.assertIs(type(first), list)
                self.assertEqual(members(n, bits), kept)

    def test_what_is_told_is_made_of_numbers(self):
        self.assertIs(type(bits_of([])), int)
        self.assertIs(type(bits_of([0])), int)
        self.assertEqual([type(letter) for letter in members(2, 3)], [int, int])


class Words(unittest.TestCase):
    def test_words(self):
        for n in range(6):
            for length in range(4):
                for word in itertools.product(range(n), repeat=length):
                    self.assertIsNone(check_word(n, word))

    def test_the_longest_word(self):
        self.assertIsNone(check_word(1, (0,) * 200))
        self.assertRaises(BadWord, check_word, 1, (0,) * 201)

    def test_what_is_no_word(self):
        for thing in ([], [0], "", "0", None, True, 0, {}):
            with self.subTest(repr(thing)):
                self.assertRaises(BadWord, check_word, 2, thing)

    def test_what_is_no_letter(self):
        for n in range(6):
            for thing in NO_NUMBERS + (-1, n, n + 1, 10 ** 30):
                with self.subTest(repr(thing), n=n):
                    self.assertRaises(BadWord, check_word, n, (thing,))


    def test_words_of_papers_may_be_longer(self):
        for n in range(1, 6):
            for length in (0, 200, 201, 5000):
                self.assertIs(is_word(n, (n - 1,) * length), True)
                self.assertIs(is_word(n, (0,) * length + (n,)), False)
                self.assertIs(is_word(n, (0,) * length + (True,)), False)
        self.assertIs(is_word(1, [0]), False)


class GivenSets(unittest.TestCase):
    def test_sets(self):
        for n in range(6):
            self.assertEqual(full_set(n), 2 ** n - 1)
            for bits in range(2 ** n):
                self.assertIsNone(check_set(n, bits))

    def test_what_is_no_set(self):
        for n in range(6):
            for thing in NO_NUMBERS + (-1, 2 ** n, 2 ** n + 1, 32, 10 ** 30):
                with self.subTest(repr(thing), n=n):
                    self.assertRaises(BadSet, check_set, n, thing)


class SameLetters(unittest.TestCase):
    def test_the_first_parts_are_compared(self):
        for n in range(6):
            for other in range(6):
                if n == other:
                    self.assertIsNone(check_same_letters((n, "x"), (other, "y")))
                else:
                    self.assertRaises(BadLetters, check_same_letters, (n, "x"), (other, "x"))


if __name__ == "__main__":
    unittest.main()
