"""[2.3]: the product of two machines."""

import math
import unittest

from spandrel.errors import BadLetters, TooMuch
from spandrel.machine import alike, check_machine, pairs_of, product
from tests.samples import BRANCHING, STILL, fan, machines_of, marked_ring, path, ring, with_edges


def product_by_words(a, b):
    """The pairs and the product, told slowly in the words of the document."""
    pairs = [(0, 0)]
    edges = []
    while len(edges) < len(pairs):
        p, q = pairs[len(edges)]
        here = set()
        for letter, x in a[1][p]:
            for other, y in b[1][q]:
                if letter == other:
                    here.add((letter, x, y))
        edges.append(here)
        for _, x, y in sorted(here):
            if (x, y) not in pairs:
                pairs.append((x, y))
    rows = [sorted((letter, pairs.index((x, y))) for letter, x, y in here) for here in edges]
    return pairs, (a[0], tuple(tuple(row) for row in rows))


class Pairs(unittest.TestCase):
    def test_numbered_by_the_letter_then_the_first_then_the_second_state(self):
        a = (2, (((0, 2), (1, 0), (1, 1)), (), ()))
        b = (2, (((0, 1), (0, 2), (1, 1)), (), ()))
        self.assertEqual(pairs_of(a, b), [(0, 0), (2, 1), (2, 2), (0, 1), (1, 1)])
        self.assertEqual(product(a, b), (2, (((0, 1), (0, 2), (1, 3), (1, 4)), (), (), (), ())))

    def test_rows_rise_by_number_where_an_older_pair_comes_later(self):
        a = (1, (((0, 1),), ((0, 0), (0, 1))))
        b = (1, (((0, 0), (0, 1)), ((0, 0),)))
        pairs = pairs_of(a, b)
        self.assertEqual(pairs, [(0, 0), (1, 0), (1, 1), (0, 1)])
        self.assertEqual(product(a, b)[1][1], ((0, 0), (0, 1), (0, 2), (0, 3)))
        self.assertEqual(product(a, b)[1][2], ((0, 0), (0, 1)))

    def test_pairs_that_are_not_reached_are_left_out(self):
        a = (2, (((0, 1),), ((1, 0),)))
        b = (2, (((1, 1),), ((0, 0),)))
        self.assertEqual(pairs_of(a, b), [(0, 0)])
        self.assertEqual(product(a, b), (2, ((),)))

    def test_no_letters(self):
        self.assertEqual(pairs_of(STILL, (0, ((), ()))), [(0, 0)])
        self.assertEqual(product(STILL, (0, ((), ()))), STILL)

    def test_with_itself(self):
        self.assertEqual(pairs_of(ring(7), ring(7)), [(state, state) for state in range(7)])
        self.assertEqual(product(ring(7), ring(7)), ring(7))

    def test_several_edges_with_one_letter(self):
        pairs, machine = product_by_words(BRANCHING, BRANCHING)
        self.assertEqual(len(pairs), 9)
        self.assertEqual(pairs_of(BRANCHING, BRANCHING), pairs)
        self.assertEqual(product(BRANCHING, BRANCHING), machine)

    def test_many_small_machines(self):
        small = machines_of(2, 2)[::5] + machines_of(1, 3)[::23] + machines_of(2, 1)
        for a in small:
            for b in small:
                if a[0] == b[0]:
                    pairs, machine = product_by_words(a, b)
                    self.assertEqual(pairs_of(a, b), pairs)
                    self.assertEqual(product(a, b), machine)

    def test_middling_machines(self):
        for a, b in ((fan(6, 2), fan(5, 3)), (marked_ring(6, (0, 2)), marked_ring(4, (1, 2))),
                     (path(9), ring(4)), (path(9), fan(5, 2))):
            pairs, machine = product_by_words(a, b)
            self.assertEqual(pairs_of(a, b), pairs)
            self.assertEqual(product(a, b), machine)
            check_machine(machine)

    def test_rings_of_unlike_sizes(self):
        for a in range(1, 20):
            for b in range(1, 20):
                many = math.lcm(a, b)
                self.assertEqual(pairs_of(ring(a), ring(b)), [(at % a, at % b) for at in range(many)])
                self.assertEqual(product(ring(a), ring(b)), ring(many))

    def test_told_lists_are_new(self):
        first = pairs_of(ring(2), ring(3))
        first.append((7, 7))
        self.assertEqual(len(pairs_of(ring(2), ring(3))), 6)

    def test_kinds(self):
        pairs = pairs_of(BRANCHING, BRANCHING)
        self.assertIs(type(pairs), list)
        self.assertEqual({type(pair) for pair in pairs}, {tuple})
        machine = product(BRANCHING, BRANCHING)
        self.assertEqual([type(part) for part in machine], [int, tuple])
        self.assertEqual({type(row) for row in machine[1]}, {tuple})


class Bounds(unittest.TestCase):
    def test_exactly_400_pairs(self):
        for a, b in ((16, 25), (25, 16), (400, 400), (1, 400), (80, 100)):
            self.assertEqual(len(pairs_of(ring(a), ring(b))), 400)
            self.assertEqual(product(ring(a), ring(b)), ring(400))

    def test_one_pair_more_than_400(self):
        late = (1, (((0, 1),),) + tuple(((0, 1 + (at + 1) % 16),) for at in range(16)))
        self.assertRaises(TooMuch, pairs_of, late, ring(25))
        self.assertRaises(TooMuch, product, late, ring(25))
        self.assertRaises(TooMuch, pairs_of, ring(25), late)

    def test_many_more_than_400_pairs(self):
        for a, b in ((ring(399), ring(400)), (ring(20), ring(21)), (fan(400, 15), fan(400, 15))):
            self.assertRaises(TooMuch, pairs_of, a, b)
            self.assertRaises(TooMuch, product, a, b)

    def test_more_than_400_pairs_from_one_pair(self):
        wide = (1, (tuple((0, to) for to in range(400)),) + ((),) * 399)
        self.assertEqual(len(pairs_of(wide, ring(1))), 400)
        self.assertRaises(TooMuch, pairs_of, wide, fan(2, 2))
        self.assertRaises(TooMuch, product, wide, wide)

    def test_pairs_that_are_not_reached_do_not_count(self):
        apart = (1, (((0, 0),),) + ring(399)[1])
        self.assertEqual(pairs_of(apart, ring(3)), [(0, 0), (0, 1), (0, 2)])
        self.assertEqual(product(apart, ring(3)), ring(3))

    def test_exactly_6000_edges(self):
        machine = product(fan(20, 5), fan(20, 3))
        self.assertEqual(len(machine[1]), 400)
        self.assertEqual(sum(len(row) for row in machine[1]), 6000)
        check_machine(machine)

    def test_one_edge_more_than_6000(self):
        a, b = [(2, (made[1][0] + ((1, 0),),) + made[1][1:]) for made in (fan(20, 5), fan(20, 3))]
        self.assertEqual(len(pairs_of(a, b)), 400)
        self.assertRaises(TooMuch, product, a, b)

    def test_many_more_than_6000_edges(self):
        full = (5, (tuple((letter, to) for letter in range(5) for to in range(20)),) * 20)
        self.assertEqual(len(pairs_of(full, full)), 400)
        self.assertRaises(TooMuch, product, full, full)

    def test_products_of_the_largest_machines(self):
        alone = (5, (tuple((letter, 0) for letter in range(5)),))
        self.assertEqual(product(with_edges(6000, 35), alone), with_edges(6000, 35))

    def test_unlike_letters(self):
        for a, b in ((ring(2), STILL), (STILL, ring(2)), (ring(399), (5, ring(400)[1])), (BRANCHING, (3, BRANCHING[1]))):
            for function in (product, pairs_of, alike):
                self.assertRaises(BadLetters, function, a, b)


if __name__ == "__main__":
    unittest.main()
