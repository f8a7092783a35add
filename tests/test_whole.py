"""Sentences over the whole program: they speak of all machines, also of those with more rows than may be handed in."""

import random
import unittest

from spandrel.demand import anything, nothing
from spandrel.dividing import accepts, completes, divided, missing
from spandrel.errors import TooMuch
from spandrel.hollow import hollow, some, trimmed, with_word
from spandrel.joining import beside, either, meet, parts
from spandrel.keeping import is_kept, keeps
from spandrel.refining import equal, least, refines, takes
from spandrel.writing import read_demand, read_machine, written_demand, written_machine
from tests.drawn import drawn_demand, drawn_machine, drawn_pair, keeper, rewritten


def pairs_by_words(m, d):
    """The reached pairs of a machine with any number of rows, or None if it does not keep the demand."""
    pairs = [(0, 0)]
    seen = {(0, 0)}
    for p, q in pairs:
        if sum(2 ** letter for letter in {letter for letter, _ in m[1][p]}) not in d[1][q][0]:
            return None
        for letter, to in m[1][p]:
            pair = (to, d[1][q][1][letter])
            if pair not in seen:
                seen.add(pair)
                pairs.append(pair)
    return pairs


def is_keeper(m, d):
    return pairs_by_words(m, d) is not None


def product_by_words(a, b):
    """The product of two machines with any numbers of rows."""
    pairs = [(0, 0)]
    number = {(0, 0): 0}
    rows = []
    for p, q in pairs:
        row = set()
        for letter, x in a[1][p]:
            for other, y in b[1][q]:
                if letter == other:
                    if (x, y) not in number:
                        number[(x, y)] = len(pairs)
                        pairs.append((x, y))
                    row.add((letter, number[(x, y)]))
        rows.append(tuple(sorted(row)))
    return (a[0], tuple(rows))


def one_row_changed(numbers, m):
    """A machine that may keep a demand no longer: one row has an edge less or is that of another state."""
    rows = list(m[1])
    at = numbers.randrange(len(rows))
    rows[at] = rows[at][1:] if rows[at] and numbers.random() < 0.5 else rows[numbers.randrange(len(rows))]
    return (m[0], tuple(rows))


def large_machines(numbers, *demands):
    """Machines of hundreds of rows, of which each keeps one of the demands or nearly does."""
    for demand in demands:
        machine = keeper(numbers, demand, numbers.randint(101, 160))
        if machine is not None:
            yield machine
            yield one_row_changed(numbers, machine)


class LargeMachines(unittest.TestCase):
    def test_trimmed_and_least_demands(self):
        numbers = random.Random(111)
        found = {True: 0, False: 0}
        large = 0
        for _ in range(40):
            s, t = drawn_pair(numbers, numbers.randrange(1, 6))
            for m in large_machines(numbers, s, t):
                large += len(m[1]) > 400
                told = is_keeper(m, s)
                found[told] += 1
                self.assertIs(is_keeper(m, trimmed(s)), told)
                self.assertIs(is_keeper(m, least(s)), told)
                self.assertIs(is_keeper(m, rewritten(numbers, s)), told)
        self.assertGreater(min(found.values()), 20)
        self.assertGreater(large, 10)

    def test_refining_and_equal(self):
        numbers = random.Random(112)
        found = {"yes": 0, "no": 0}
        for _ in range(80):
            s, t = drawn_pair(numbers, numbers.randrange(1, 6))
            paper = refines(s, t)
            found[paper[0]] += 1
            self.assertIs(equal(s, t), paper[0] == "yes" and refines(t, s)[0] == "yes")
            for m in large_machines(numbers, s):
                if paper[0] == "yes" and is_keeper(m, s):
                    self.assertIs(is_keeper(m, t), True)
        self.assertGreater(min(found.values()), 20)

    def test_meet_and_either(self):
        numbers = random.Random(113)
        found = {True: 0, False: 0}
        for _ in range(30):
            a, b = drawn_pair(numbers, numbers.randrange(1, 6), 3)
            both, one = meet(a, b), either(a, b)
            for m in large_machines(numbers, a, b, both, one):
                told = is_keeper(m, a) and is_keeper(m, b)
                found[told] += 1
                self.assertIs(is_keeper(m, both), told)
                if is_keeper(m, a) or is_keeper(m, b):
                    self.assertIs(is_keeper(m, one), True)
        self.assertGreater(min(found.values()), 50)

    def test_beside(self):
        numbers = random.Random(114)
        large = 0
        for _ in range(40):
            a, b = drawn_pair(numbers, numbers.randrange(1, 4), 3)
            machines = [keeper(numbers, d, 24) for d in (a, b)]
            if None not in machines:
                both = product_by_words(*machines)
                large += len(both[1]) > 400
                self.assertIs(is_keeper(both, beside(a, b)), True)
        self.assertGreater(large, 5)

    def test_divided(self):
        numbers = random.Random(115)
        large = 0
        for _ in range(120):
            n = numbers.randrange(1, 4)
            s, t = drawn_pair(numbers, n, 3)
            x, m = keeper(numbers, divided(t, s), 22), keeper(numbers, s, 22)
            if x is not None and m is not None:
                both = product_by_words(x, m)
                large += len(both[1]) > 400
                self.assertIs(is_keeper(both, t), True)
        self.assertGreater(large, 5)

    def test_what_does_not_keep_the_divided_demand(self):
        numbers = random.Random(116)
        many = 0
        for _ in range(200):
            n = numbers.randrange(1, 6)
            s, t = drawn_pair(numbers, n, 3)
            x = drawn_machine(numbers, n)
            told = is_keeper(x, divided(t, s))
            paper = completes(x, s, t)
            self.assertEqual(paper[0] == "yes", told)
            if not told:
                many += 1
                self.assertIs(is_keeper(paper[1], s), True)
                self.assertIs(is_keeper(product_by_words(x, paper[1]), t), False)
        self.assertGreater(many, 50)


class Equivalences(unittest.TestCase):
    def test_kept_by_some_machine(self):
        numbers = random.Random(117)
        found = {True: 0, False: 0}
        for _ in range(300):
            n = numbers.randrange(6)
            d = drawn_demand(numbers, n, 8)
            told = some(d) is None
            found[told] += 1
            self.assertIs(0 in hollow(d), told)
            self.assertIs(trimmed(d) == nothing(n), told)
            self.assertIs(least(d) == nothing(n), told)
            self.assertIs(refines(d, nothing(n))[0] == "yes", told)
            self.assertIs(equal(d, nothing(n)), told)
            self.assertIs(missing(nothing(n), d) is not None, told)
            self.assertIs(missing(d, anything(n)) is None, self.kept_by_none_beside_all(d))
            self.assertEqual(refines(anything(n), d)[0] == "yes", equal(anything(n), d))
        self.assertGreater(min(found.values()), 40)

    def kept_by_none_beside_all(self, d):
        """Whether not even the part that offers no letter at all makes all machines keep a demand."""
        # Each part may stand beside the machine that offers no letter, so the empty set is offered at first;
        # the part that offers none offers nothing else.
        return 0 not in trimmed(d)[1][0][0]

    def test_laws(self):
        numbers = random.Random(118)
        many = 0
        for _ in range(250):
            n = numbers.randrange(6)
            a, b = drawn_pair(numbers, n, 2)
            c = drawn_demand(numbers, n, 2)
            try:
                for joint in (meet, either, beside):
                    self.assertTrue(equal(joint(a, joint(b, c)), joint(joint(a, b), c)))
                self.assertTrue(equal(meet(a, either(a, b)), a))
                self.assertTrue(equal(either(a, meet(a, b)), a))
                self.assertTrue(equal(divided(divided(c, a), b), divided(c, beside(a, b))))
                self.assertTrue(equal(divided(meet(a, b), c), meet(divided(a, c), divided(b, c))))
                self.assertTrue(equal(divided(c, either(a, b)), meet(divided(c, a), divided(c, b))))
                self.assertTrue(equal(beside(either(a, b), c), either(beside(a, c), beside(b, c))))
                many += 1
            except TooMuch:
                pass
        self.assertGreater(many, 200)

    def test_words_and_parts(self):
        numbers = random.Random(119)
        found = {True: 0, False: 0}
        for _ in range(200):
            n = numbers.randrange(1, 6)
            a, b = drawn_pair(numbers, n, 3)
            for length in (0, 1, 2, 3, 10, 200):
                word = tuple(numbers.randrange(n) for _ in range(length))
                bits = numbers.randrange(2 ** n)
                told = parts(a, b, word, bits) is not None
                found[told] += 1
                self.assertIs(with_word(beside(a, b), word, bits) is not None, told)
        self.assertGreater(min(found.values()), 100)


class Papers(unittest.TestCase):
    def test_each_told_paper_is_taken_and_no_other_answer_is(self):
        numbers = random.Random(120)
        for _ in range(200):
            n = numbers.randrange(6)
            s, t = drawn_pair(numbers, n, 3)
            x = drawn_machine(numbers, n)
            before = repr((x, s, t))
            told = [keeps(x, s), refines(s, t), completes(x, s, t)]
            again = [keeps(x, s), refines(s, t), completes(x, s, t)]
            self.assertEqual(told, again)
            self.assertEqual(repr((x, s, t)), before)
            self.assertIs(is_kept(x, s, told[0]), True)
            self.assertIs(takes(s, t, told[1]), True)
            self.assertIs(accepts(x, s, t, told[2]), True)
            for paper in told:
                changed = ("no" if paper[0] == "yes" else "yes",) + paper[1:]
                self.assertIs(is_kept(x, s, changed), False)
                self.assertIs(takes(s, t, changed), False)
                self.assertIs(accepts(x, s, t, changed), False)

    def test_texts(self):
        numbers = random.Random(121)
        for _ in range(200):
            n = numbers.randrange(6)
            s, t = drawn_pair(numbers, n, 3)
            x = drawn_machine(numbers, n)
            for demand in (s, t, least(s), meet(s, t), either(s, t), beside(s, t), divided(t, s)):
                self.assertEqual(read_demand(written_demand(demand)), demand)
            for machine in (x, some(s), missing(t, s)):
                if machine is not None:
                    self.assertEqual(read_machine(written_machine(machine)), machine)


if __name__ == "__main__":
    unittest.main()
