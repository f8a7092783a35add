"""[2.4]: machines that are alike."""

import random
import unittest

from spandrel.machine import alike, led
from tests.samples import BRANCHING, GOOD_MACHINES, STILL, fan, machines_of, marked_ring, path, ring


def alike_by_pairs(a, b):
    """Begins with all pairs of states and leaves out those that cannot stay."""
    pairs = {(p, q) for p in range(len(a[1])) for q in range(len(b[1]))}
    while True:
        kept = {(p, q) for p, q in pairs if matched(a[1][p], b[1][q], pairs)}
        if kept == pairs:
            return (0, 0) in pairs
        pairs = kept


def matched(row, other, pairs):
    """Whether each edge of the one row has one of the other row beside it, both ways round."""
    for letter, x in row:
        if not any(letter == also and (x, y) in pairs for also, y in other):
            return False
    for letter, y in other:
        if not any(letter == also and (x, y) in pairs for also, x in row):
            return False
    return True


class Alike(unittest.TestCase):
    def both(self, a, b, told):
        self.assertIs(alike(a, b), told)
        self.assertIs(alike(b, a), told)

    def test_each_machine_is_alike_to_itself(self):
        for name, machine in GOOD_MACHINES.items():
            with self.subTest(name):
                self.both(machine, machine, True)

    def test_states_twice(self):
        twice = (2, (((0, 0), (0, 1), (0, 2), (0, 3), (1, 4)), ((0, 2), (0, 4), (1, 0)), (),
                     ((0, 4), (1, 0)), ()))
        self.both(BRANCHING, twice, True)
        for size in (2, 3, 7):
            self.both(path(size), (1, path(size)[1] + path(size)[1]), True)

    def test_states_in_another_order(self):
        other = (2, (((0, 0), (0, 1), (0, 2), (1, 1)), (), ((0, 1), (1, 0))))
        self.both(BRANCHING, other, True)

    def test_states_that_are_not_reached_do_not_matter(self):
        self.both(BRANCHING, (2, BRANCHING[1] + (((0, 0), (1, 3)),)), True)
        self.both((1, ((), ((0, 0),))), (1, ((),)), True)

    def test_an_edge_more_or_less(self):
        for state in range(2):
            row = BRANCHING[1][state]
            for at in range(len(row)):
                less = BRANCHING[1][:state] + (row[:at] + row[at + 1:],) + BRANCHING[1][state + 1:]
                with self.subTest(state=state, at=at):
                    self.both(BRANCHING, (2, less), False)
        self.both(BRANCHING, (2, BRANCHING[1][:2] + (((1, 0),),)), False)
        self.both((1, ((),)), ring(1), False)

    def test_an_edge_more_to_an_alike_state(self):
        self.both((1, (((0, 1),), (), ())), (1, (((0, 1), (0, 2)), (), ())), True)

    def test_the_letter_matters(self):
        self.both((2, (((0, 0),),)), (2, (((1, 0),),)), False)

    def test_same_words_and_not_alike(self):
        early = (3, (((0, 1), (0, 2)), ((1, 3),), ((2, 3),), ()))
        late = (3, (((0, 1),), ((1, 2), (2, 2)), ()))
        for word in ((), (0,), (0, 1), (0, 2), (1,), (0, 1, 1)):
            self.assertEqual(led(early, word) == [], led(late, word) == [])
        self.both(early, late, False)

    def test_each_does_what_the_other_does_and_not_alike(self):
        ends = (2, (((0, 1), (0, 2)), ((1, 2),), ()))
        goes = (2, (((0, 1),), ((1, 2),), ()))
        self.both(ends, goes, False)

    def test_no_letters(self):
        self.both(STILL, (0, ((), ())), True)

    def test_many_small_machines(self):
        small = machines_of(2, 2)[::5] + machines_of(1, 3)[::11] + machines_of(2, 1) + machines_of(1, 2)
        told = {True: 0, False: 0}
        for a in small:
            for b in small:
                if a[0] == b[0]:
                    expected = alike_by_pairs(a, b)
                    told[expected] += 1
                    self.assertIs(alike(a, b), expected, (a, b))
        self.assertGreater(min(told.values()), 500)


class Mixed(unittest.TestCase):
    """Machines of several states, mixed by a fixed sequence of numbers."""

    def mixed(self, numbers, states, many):
        chosen = {(numbers.randrange(states), numbers.randrange(2), numbers.randrange(states))
                  for _ in range(many)}
        rows = [sorted((letter, to) for state, letter, to in chosen if state == at) for at in range(states)]
        return (2, tuple(tuple(row) for row in rows))

    def twice(self, numbers, machine):
        """Each state twice, in another order, each edge to one of both states or to both."""
        many = len(machine[1])
        places = [0] + numbers.sample(range(1, 2 * many), 2 * many - 1)
        rows = [()] * (2 * many)
        for state in range(2 * many):
            row = set()
            for letter, to in machine[1][state % many]:
                for copy in ((to,), (to + many,), (to, to + many))[numbers.randrange(3)]:
                    row.add((letter, places[copy]))
            rows[places[state]] = tuple(sorted(row))
        return (machine[0], tuple(rows))

    def test_mixed_machines(self):
        numbers = random.Random(5)
        told = {True: 0, False: 0}
        for _ in range(600):
            a = self.mixed(numbers, numbers.randrange(1, 7), numbers.randrange(14))
            b = self.mixed(numbers, numbers.randrange(1, 7), numbers.randrange(14))
            expected = alike_by_pairs(a, b)
            told[expected] += 1
            self.assertIs(alike(a, b), expected, (a, b))
        self.assertGreater(min(told.values()), 50)

    def test_states_twice_and_a_row_less(self):
        numbers = random.Random(6)
        for _ in range(300):
            a = self.mixed(numbers, 6, numbers.randrange(6, 20))
            b = self.twice(numbers, a)
            self.assertIs(alike(a, b), True, (a, b))
            self.assertIs(alike(b, a), True, (a, b))
            at = numbers.randrange(12)
            cut = (2, b[1][:at] + ((),) + b[1][at + 1:])
            self.assertIs(alike(a, cut), alike_by_pairs(a, cut), (a, cut))


class Rings(unittest.TestCase):
    def test_rings_of_any_two_sizes(self):
        sizes = (1, 2, 3, 7, 60, 128, 256, 311, 397, 399, 400)
        for size in sizes:
            for other in sizes:
                self.assertIs(alike(ring(size), ring(other)), True)
        for size in range(1, 401):
            self.assertIs(alike(ring(size), ring(401 - size)), True)

    def test_a_ring_is_not_a_path(self):
        for size in (1, 2, 399, 400):
            self.assertIs(alike(ring(size), path(400)), False)
            self.assertIs(alike(path(size), ring(400)), False)

    def test_paths(self):
        for size in (1, 2, 3, 200, 399, 400):
            for other in (1, 2, 3, 200, 399, 400):
                self.assertIs(alike(path(size), path(other)), size == other)

    def test_rings_with_one_mark(self):
        for size in (1, 2, 3, 199, 200, 397, 399, 400):
            for other in (1, 2, 3, 199, 200, 397, 399, 400):
                self.assertIs(alike(marked_ring(size, (0,)), marked_ring(other, (0,))), size == other)
        self.assertIs(alike(marked_ring(400, (0,)), marked_ring(400, (1,))), False)

    def test_rings_with_marks_at_equal_distances(self):
        for size in (8, 40, 200, 400):
            marks = tuple(range(0, size, 8))
            self.assertIs(alike(marked_ring(size, marks), marked_ring(8, (0,))), True)
            self.assertIs(alike(marked_ring(size, marks), marked_ring(10, (0,))), False)
            self.assertIs(alike(marked_ring(size, marks[1:]), marked_ring(8, (0,))), False)

    def test_fans(self):
        self.assertIs(alike(fan(400, 15), fan(399, 15)), True)
        self.assertIs(alike(fan(400, 15), ring(1)), True)
        cut = fan(400, 15)
        self.assertIs(alike(cut, (1, cut[1][:-1] + ((),))), False)


if __name__ == "__main__":
    unittest.main()
