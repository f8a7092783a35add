"""only: the demand that just the machines alike to one machine keep."""

import random
import unittest

from spandrel.demand import check_demand, only
from spandrel.errors import BadMachine, TooMuch
from spandrel.keeping import keeps
from spandrel.machine import alike, offers, pairs_of
from tests.demands import mixed_machine
from tests.samples import BAD_MACHINES, BRANCHING, STILL, fan, machines_of, marked_ring, path, ring


def at_most_one_edge_a_letter(machine):
    states = [p for p, _ in pairs_of(machine, machine)]
    return all(len({letter for letter, _ in machine[1][at]}) == len(machine[1][at]) for at in states)


class Told(unittest.TestCase):
    def test_small_ones(self):
        self.assertEqual(only(STILL), (0, (((0,), ()),)))
        self.assertEqual(only((2, ((),))), (2, (((0,), (-1, -1)),)))
        self.assertEqual(only(ring(1)), (1, (((1,), (0,)),)))
        self.assertEqual(only(path(3)), (1, (((1,), (1,)), ((1,), (2,)), ((0,), (-1,)))))

    def test_numbered_as_they_are_found(self):
        machine = (2, (((0, 3), (1, 1)), ((0, 4),), ((0, 0),), ((0, 3), (1, 4)), ()))
        told = only(machine)
        self.assertEqual([p for p, _ in pairs_of(machine, machine)], [0, 3, 1, 4])
        self.assertEqual(told[1][0], ((3,), (1, 2)))
        self.assertEqual(told[1][1], ((3,), (1, 3)))
        self.assertEqual([told[1][2][0], told[1][3][0]], [(1,), (0,)])
        self.assertEqual(told[1][2][1][0], 3)

    def test_states_that_are_not_reached_are_left_out(self):
        machine = (2, (((0, 2),), ((0, 0), (0, 1), (1, 1)), ((1, 0),)))
        told = only(machine)
        self.assertEqual([accepts for accepts, _ in told[1]], [(1,), (2,)])
        self.assertEqual(only((1, ((),) + ring(399)[1])), only((1, ((),))))

    def test_several_edges_of_one_letter(self):
        self.assertIsNone(only(BRANCHING))
        self.assertIsNone(only((1, (((0, 0), (0, 1)), ()))))
        self.assertIsNone(only((2, (((0, 1),), ((1, 0), (1, 1))))))

    def test_several_edges_far_behind_more_than_40_states(self):
        for size in (39, 40, 41, 42, 100, 399, 400):
            rows = path(size)[1][:-1] + (((0, 0), (0, size - 1)),)
            self.assertIsNone(only((1, rows)))
        self.assertIsNone(only(fan(400, 15)))
        self.assertIsNone(only(fan(60, 2)))

    def test_more_than_40_states(self):
        for size in (41, 42, 100, 400):
            self.assertRaises(TooMuch, only, path(size))
            self.assertRaises(TooMuch, only, ring(size))

    def test_several_edges_that_are_not_reached_and_more_than_40_states(self):
        self.assertRaises(TooMuch, only, (1, ring(41)[1] + (((0, 0), (0, 1)),)))

    def test_exactly_40_states(self):
        for machine in (path(40), ring(40), (1, path(40)[1] + ring(300)[1][:1] * 300)):
            told = only(machine)
            self.assertEqual(len(told[1]), 40)
            self.assertIsNone(check_demand(told))
            self.assertEqual(keeps(machine, told), ("yes", tuple((at, at) for at in range(40))))

    def test_what_is_no_machine(self):
        for name, thing in BAD_MACHINES.items():
            with self.subTest(name):
                self.assertRaises(BadMachine, only, thing)


class Kept(unittest.TestCase):
    def test_by_just_the_alike_ones(self):
        small = machines_of(2, 2)[::3] + machines_of(1, 3)[::7] + machines_of(2, 1) + machines_of(1, 2)
        told = {"yes": 0, "no": 0}
        for machine in small:
            demand = only(machine)
            self.assertEqual(demand is not None, at_most_one_edge_a_letter(machine))
            for other in small:
                if demand is not None and machine[0] == other[0]:
                    answer = keeps(other, demand)[0]
                    told[answer] += 1
                    self.assertEqual(answer == "yes", alike(machine, other), (machine, other))
        self.assertGreater(min(told.values()), 100)

    def test_offers_and_numbers(self):
        numbers = random.Random(2)
        for _ in range(400):
            machine = mixed_machine(numbers, numbers.randrange(1, 6), numbers.randrange(1, 8), numbers.randrange(9))
            demand = only(machine)
            if at_most_one_edge_a_letter(machine):
                self.assertIsNone(check_demand(demand))
                states = [p for p, _ in pairs_of(machine, machine)]
                self.assertEqual([accepts for accepts, _ in demand[1]], [(offers(machine, at),) for at in states])
                for at, state in enumerate(states):
                    for letter, to in machine[1][state]:
                        self.assertEqual(states[demand[1][at][1][letter]], to)
            else:
                self.assertIsNone(demand)

    def test_rings(self):
        demand = only(marked_ring(8, (0,)))
        self.assertEqual(keeps(marked_ring(400, range(0, 400, 8)), demand)[0], "yes")
        self.assertEqual(keeps(marked_ring(400, range(0, 400, 10)), demand), ("no", (0,) * 8, 8))


if __name__ == "__main__":
    unittest.main()
