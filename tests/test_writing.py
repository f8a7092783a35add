"""[8.1] to [8.3]: machines and demands as texts, and texts read back."""

import itertools
import random
import re
import unittest

from spandrel.demand import anything, check_demand, nothing
from spandrel.errors import BadDemand, BadMachine, BadText
from spandrel.machine import check_machine
from spandrel.writing import read_demand, read_machine, written_demand, written_machine
from tests.demands import BAD_DEMANDS, GOOD_DEMANDS, SAMPLE, chain, every_set, mixed_demand, mixed_machine, wide
from tests.samples import BAD_MACHINES, BRANCHING, GOOD_MACHINES, STILL, fan, machines_of, path, ring, with_edges

MACHINE_TEXT = "machine 2\n0: a0 b1\n1:"
MACHINE = (2, (((0, 0), (1, 1)), ()))
DEMAND_TEXT = "demand 2\n0: {} {ab} | a0 b1\n1: |"
DEMAND = (2, (((0, 3), (0, 1)), ((), (-1, -1))))

NUMBER = "(0|[1-9][0-9]*)"
EDGE = f"[a-e]{NUMBER}"
SIGNS = "abcdefAzmn0123456789 :|{}()[]-+_.,;\n\t\r\v\f\x00\x1c\x85\xa0\u2028\u0660\uff10"


def machine_by_words(text):
    """The machine that a text is, by the form that the document tells, or None."""
    lines = text.split("\n")
    if not re.fullmatch("machine [0-5]", lines[0]):
        return None
    rows = []
    for at, line in enumerate(lines[1:]):
        if not re.fullmatch(f"{at}:(?: {EDGE})*", line):
            return None
        rows.append(tuple(("abcde".index(word[0]), int(word[1:])) for word in line.split(" ")[1:]))
    machine = (int(lines[0][-1]), tuple(rows))
    try:
        check_machine(machine)
    except BadMachine:
        return None
    return machine


def demand_by_words(text):
    """The demand that a text is, by the form that the document tells, or None."""
    lines = text.split("\n")
    if not re.fullmatch("demand [0-5]", lines[0]):
        return None
    n = int(lines[0][-1])
    states = []
    for at, line in enumerate(lines[1:]):
        if not re.fullmatch(f"{at}:(?: {{a?b?c?d?e?}})* \\|(?: {EDGE})*", line):
            return None
        before, behind = line.split("|")
        sets = [word[1:-1] for word in before.split(" ")[1:-1]]
        edges = [("abcde".index(word[0]), int(word[1:])) for word in behind.split(" ")[1:]]
        if [letter for letter, _ in edges] != sorted({letter for letter, _ in edges}) or any(a >= n for a, _ in edges):
            return None
        ahead = dict(edges)
        accepts = tuple(sum(2 ** "abcde".index(sign) for sign in signs) for signs in sets)
        states.append((accepts, tuple(ahead.get(letter, -1) for letter in range(n))))
    try:
        check_demand((n, tuple(states)))
    except BadDemand:
        return None
    return (n, tuple(states))


def changed_texts(text):
    """The text with one sign left out, put in or changed, at any place, and with two neighbours exchanged."""
    for at in range(len(text) + 1):
        yield text[:at] + text[at + 1:]
        yield text[:at] + text[at + 1:at + 2] + text[at:at + 1] + text[at + 2:]
        for sign in SIGNS:
            yield text[:at] + sign + text[at:]
            yield text[:at] + sign + text[at + 1:]


class Case(unittest.TestCase):
    def machine(self, m):
        text = written_machine(m)
        self.assertIs(type(text), str)
        self.assertEqual(machine_by_words(text), m)
        again = read_machine(text)
        self.assertEqual(again, m)
        self.assertEqual(repr(again), repr(m))
        self.assertRaises(BadText, read_demand, text)

    def demand(self, d):
        text = written_demand(d)
        self.assertIs(type(text), str)
        self.assertEqual(demand_by_words(text), d)
        again = read_demand(text)
        self.assertEqual(again, d)
        self.assertEqual(repr(again), repr(d))
        self.assertRaises(BadText, read_machine, text)

    def no_machine(self, text):
        self.assertRaises(BadText, read_machine, text)

    def no_demand(self, text):
        self.assertRaises(BadText, read_demand, text)


class Machines(Case):
    def test_the_example(self):
        self.assertEqual(written_machine(MACHINE), MACHINE_TEXT)
        self.assertEqual(read_machine(MACHINE_TEXT), MACHINE)

    def test_named_ones(self):
        self.assertEqual(written_machine(STILL), "machine 0\n0:")
        self.assertEqual(written_machine((3, ((), ()))), "machine 3\n0:\n1:")
        self.assertEqual(written_machine(BRANCHING), "machine 2\n0: a0 a1 a2 b2\n1: a2 b0\n2:")
        self.assertEqual(written_machine((5, (tuple((letter, 0) for letter in range(5)),))),
                         "machine 5\n0: a0 b0 c0 d0 e0")
        lines = written_machine(ring(400)).split("\n")
        self.assertEqual((lines[1], lines[10], lines[11], lines[400]), ("0: a1", "9: a10", "10: a11", "399: a0"))

    def test_samples(self):
        for name, machine in GOOD_MACHINES.items():
            with self.subTest(name):
                self.machine(machine)
        for machine in machines_of(1, 2) + machines_of(2, 2)[::3] + machines_of(3, 1) + [ring(400), fan(400, 15)]:
            self.machine(machine)

    def test_drawn_ones(self):
        numbers = random.Random(101)
        for _ in range(200):
            self.machine(mixed_machine(numbers, numbers.randrange(6), numbers.randint(1, 120), numbers.randrange(300)))

    def test_one_sign_changed(self):
        kept = 0
        for text in (MACHINE_TEXT, "machine 0\n0:", written_machine(BRANCHING), written_machine(path(12))):
            for changed in changed_texts(text):
                told = machine_by_words(changed)
                if told is None:
                    self.no_machine(changed)
                else:
                    kept += changed != text
                    self.assertEqual(read_machine(changed), told)
                self.no_demand(changed)
        self.assertGreater(kept, 50)

    def test_lines_exchanged_left_out_or_twice(self):
        lines = written_machine(path(12)).split("\n")
        for at, also in itertools.combinations(range(len(lines)), 2):
            changed = list(lines)
            changed[at], changed[also] = changed[also], changed[at]
            self.no_machine("\n".join(changed))
        for at in range(len(lines)):
            self.no_machine("\n".join(lines[:at] + lines[at + 1:]))
            self.no_machine("\n".join(lines[:at] + lines[at:at + 1] + lines[at:]))
            self.no_machine("\n".join(lines[:at] + [""] + lines[at:]))

    def test_edges_exchanged_or_twice(self):
        for row in ("a1 a0", "b0 a0", "a0 a0", "a0 b1 a1", "b0 b0"):
            self.no_machine(f"machine 2\n0: {row}\n1:")
            self.no_machine(f"machine 2\n0:\n1: {row}")

    def test_blanks_and_line_feeds(self):
        for text in (MACHINE_TEXT, "machine 0\n0:", "machine 5\n0: e0"):
            for more in (" ", "\n", "\n\n", "  ", "\t", "\r", "\r\n", "\v", "\f", "\x1c", "\x85", "\u2028", "\x00",
                         "0", "0:"):
                self.no_machine(text + more)
                self.no_machine(more + text)
                for at, sign in enumerate(text):
                    if sign in " \n":
                        self.no_machine(text[:at] + more + text[at:])
                        if more not in (" ", "\n") or more != sign:
                            self.no_machine(text[:at] + more + text[at + 1:])

    def test_noughts_and_other_numbers(self):
        for number in ("00", "000", "01", "-0", "+0", "-1", "+1", "0_1", "1_0", "0.", "0x0", "1e0", "", " 0", "0 ", "2",
                       "12345", "\u0660", "\uff10", "\u00b9", "\u0661", "one", "a", "{", "True", "None"):
            self.no_machine(f"machine 2\n0: a{number} b1\n1:")
            self.no_machine(f"machine 2\n{number}: a0 b1\n1:")
            self.no_machine(f"machine 2\n0: a0 b1\n{number}:")
            if number != "2":
                self.no_machine(f"machine {number}\n0: a0 b1\n1:")
        for n in ("1", "0"):
            self.no_machine(f"machine {n}\n0: a0 b1\n1:")
        for n in ("3", "4", "5"):
            self.assertEqual(read_machine(f"machine {n}\n0: a0 b1\n1:"), (int(n), MACHINE[1]))
        for n in ("6", "7", "10", "12", "05", "5.0"):
            self.no_machine(f"machine {n}\n0: a0 b1\n1:")

    def test_numbers_of_many_figures(self):
        for many in (3, 4, 5, 20, 4299, 4300, 4301, 5000, 100000):
            for figure in "019":
                number = figure * many
                self.no_machine(f"machine {number}\n0:")
                self.no_machine(f"machine 1\n{number}:")
                self.no_machine(f"machine 1\n0:\n{number}:")
                self.no_machine(f"machine 1\n0: a{number}")
                self.no_machine(f"machine 1\n0: a0 a{number}")

    def test_other_letters(self):
        for letter in "fghzABE01{}|: \u0430\uff41":
            self.no_machine(f"machine 5\n0: {letter}0")
            self.no_machine(f"machine 5\n0: a0 {letter}0")
        for n in range(6):
            for at, letter in enumerate("abcde"):
                if at < n:
                    self.assertEqual(read_machine(f"machine {n}\n0: {letter}0"), (n, (((at, 0),),)))
                else:
                    self.no_machine(f"machine {n}\n0: {letter}0")
        for word in ("a", "aa0", "ab0", "0a", "a0a", "a0,", "a 0", "(a0)", "a0b0"):
            self.no_machine(f"machine 2\n0: {word}")

    def test_other_heads(self):
        for head in ("", "machine", "machine ", "Machine 2", "MACHINE 2", "machines 2", "machine  2", " machine 2",
                     "machine 2 ", "machine2", "machine\t2", "machine 2 2", "demand 2", "2 machine", "machine: 2", "2",
                     "machine a", "machine 2:", "nothing 2"):
            self.no_machine(f"{head}\n0: a0 b1\n1:")
        for text in ("", "\n", " ", "0:", "machine 2", "machine 2\n", "machine 2\n\n", "machine 2 0:", "machine 2\n0",
                     "machine 2\n1:", "machine 2\n:", "machine 2\n0 :", "machine 2\n0;", "machine 2\n0: ",
                     "machine 2\n0:a0"):
            self.no_machine(text)

    def test_more_than_the_bounds(self):
        self.machine(path(400))
        self.machine(with_edges(6000))
        self.machine(with_edges(6000, 35))
        self.no_machine(written_machine(path(400)) + "\n400:")
        self.no_machine("machine 1\n" + "\n".join(f"{at}:" for at in range(401)))
        self.no_machine("machine 1\n" + "\n".join(f"{at}:" for at in range(20000)))
        self.assertEqual(machine_by_words("machine 5\n" + "\n".join(f"{at}:" for at in range(400))), (5, ((),) * 400))
        for size in (35, 399):
            lines = written_machine(with_edges(6000, size)).split("\n")
            spare = [at for at, line in enumerate(lines[1:], 1) if not line.endswith(f" e{size - 1}")]
            for at in spare[:3]:
                more = lines[at] + f" e{size - 1}"
                self.no_machine("\n".join(lines[:at] + [more] + lines[at + 1:]))

    def test_states_that_are_not_there(self):
        self.no_machine("machine 2\n0: a1")
        self.no_machine("machine 2\n0: a2\n1:")
        self.no_machine(written_machine(path(400))[:-4].replace("a399", "a400"))

    def test_refused(self):
        for name, thing in BAD_MACHINES.items():
            with self.subTest(name):
                self.assertRaises(BadMachine, written_machine, thing)
        self.assertRaises(BadMachine, written_machine, DEMAND)


class Demands(Case):
    def test_the_example(self):
        self.assertEqual(written_demand(DEMAND), DEMAND_TEXT)
        self.assertEqual(read_demand(DEMAND_TEXT), DEMAND)

    def test_no_letters(self):
        self.assertEqual(anything(0), (0, (((0,), ()),)))
        self.assertEqual(nothing(0), (0, (((), ()),)))
        self.assertEqual(written_demand(anything(0)), "demand 0\n0: {} |")
        self.assertEqual(written_demand(nothing(0)), "demand 0\n0: |")

    def test_named_ones(self):
        self.assertEqual(written_demand(SAMPLE), "demand 2\n0: {} {a} {ab} | a1 b0\n1: {b} | b0\n2: | b1")
        self.assertEqual(written_demand(nothing(5)), "demand 5\n0: |")
        self.assertEqual(written_demand((5, (((0, 21, 31), (0, 0, 0, 0, 0)),))),
                         "demand 5\n0: {} {ace} {abcde} | a0 b0 c0 d0 e0")
        self.assertEqual(written_demand((3, (((), (0, -1, 0)), ((4,), (-1, -1, 1))))),
                         "demand 3\n0: | a0 c0\n1: {c} | c1")
        lines = written_demand(chain(40)).split("\n")
        self.assertEqual((lines[1], lines[10], lines[40]), ("0: {a} | a1", "9: {a} | a10", "39: |"))

    def test_samples(self):
        for name, demand in GOOD_DEMANDS.items():
            with self.subTest(name):
                self.demand(demand)
        for left_out in every_set(5):
            self.demand(wide(5, 40, left_out))

    def test_drawn_ones(self):
        numbers = random.Random(102)
        for _ in range(300):
            self.demand(mixed_demand(numbers, numbers.randrange(6), numbers.randint(1, 40), numbers.randrange(90)))

    def test_one_sign_changed(self):
        kept = 0
        texts = (DEMAND_TEXT, "demand 0\n0: {} |", "demand 0\n0: |", written_demand(SAMPLE), written_demand(chain(11)),
                 "demand 5\n0: {abd} {ce} | a0 b0 c0 d0 e0")
        for text in texts:
            for changed in changed_texts(text):
                told = demand_by_words(changed)
                if told is None:
                    self.no_demand(changed)
                else:
                    kept += changed != text
                    self.assertEqual(read_demand(changed), told)
                self.no_machine(changed)
        self.assertGreater(kept, 50)

    def test_lines_exchanged_left_out_or_twice(self):
        lines = written_demand(chain(12)).split("\n")
        for at, also in itertools.combinations(range(len(lines)), 2):
            changed = list(lines)
            changed[at], changed[also] = changed[also], changed[at]
            self.no_demand("\n".join(changed))
        for at in range(len(lines)):
            self.no_demand("\n".join(lines[:at] + lines[at:at + 1] + lines[at:]))
            self.no_demand("\n".join(lines[:at] + [""] + lines[at:]))
            if at < len(lines) - 1:
                self.no_demand("\n".join(lines[:at] + lines[at + 1:]))

    def test_sets(self):
        for sets in ("{a} {}", "{a} {a}", "{} {}", "{ab} {b}", "{b} {a}", "{ba}", "{aa}", "{a", "a}", "a", "{a b}",
                     "{ }", "()", "{a}{b}", "{a},", "{{a}}", "{A}", "{0}", "{c}", "{f}", "[a]", "{a,b}", "{a}  {b}",
                     "{", "}", "{}}", "{}a", "}{", "xax", "|", "{|}", "{a} |", "| {a}"):
            self.no_demand(f"demand 2\n0: {sets} | a0 b0")
        for sets in ("{}", "{a}", "{b}", "{ab}", "{} {a} {b} {ab}", "{a} {ab}"):
            self.demand(read_demand(f"demand 2\n0: {sets} | a0 b0"))

    def test_ends(self):
        for ends in ("b0 a0", "a0 a0", "a0 a1", "a1", "a2 b0", "b0", "a0", "a0  b0", "a0 b0 ", " a0 b0", "a0 b0 c0",
                     "a b0", "0 b0", "a0 b-1", "a-1 b0", "a0,b0", "a0b0", "A0 b0", "a00 b0", "a0 b01", "{a} b0",
                     "a0 | b0", "a0 b0 |", "|"):
            self.no_demand(f"demand 2\n0: {{ab}} | {ends}")
        self.assertEqual(read_demand("demand 2\n0: | b0"), (2, (((), (-1, 0)),)))
        self.assertEqual(read_demand("demand 2\n0: {a} | a0"), (2, (((1,), (0, -1)),)))
        self.no_demand("demand 2\n0: {a} | b0")
        self.no_demand("demand 2\n0: {a} |")

    def test_bars(self):
        for line in ("0:", "0: ", "0: {}", "0: {} ", "0:|", "0: | ", "0:  |", "0: ||", "0: | |", "0: {}|",
                     "0: {} |a0", "0 : |", "0: {} / a0", "0: {} I a0", "|", ": |", "0 |"):
            self.no_demand(f"demand 1\n{line}")
        self.assertEqual(read_demand("demand 1\n0: |"), nothing(1))

    def test_blanks_and_line_feeds(self):
        for text in (DEMAND_TEXT, "demand 0\n0: |", "demand 5\n0: {e} | e0"):
            for more in (" ", "\n", "\n\n", "  ", "\t", "\r", "\r\n", "\v", "\f", "\x1c", "\x85", "\u2028", "\x00",
                         "0", "0: |"):
                self.no_demand(text + more)
                self.no_demand(more + text)

    def test_noughts_and_other_numbers(self):
        for number in ("00", "000", "01", "-0", "+0", "-1", "+1", "0_1", "1_0", "0.", "0x0", "1e0", "", " 0", "0 ", "2",
                       "12345", "\u0660", "\uff10", "\u00b9", "\u0661", "one", "a", "{", "True", "None"):
            self.no_demand(f"demand 2\n0: {{}} {{ab}} | a{number} b1\n1: |")
            self.no_demand(f"demand 2\n{number}: {{}} {{ab}} | a0 b1\n1: |")
            self.no_demand(f"demand 2\n0: {{}} {{ab}} | a0 b1\n{number}: |")
            if number != "2":
                self.no_demand(f"demand {number}\n0: {{}} {{ab}} | a0 b1\n1: |")
        for n in ("0", "1", "6", "7", "10", "12", "05"):
            self.no_demand(f"demand {n}\n0: {{}} {{ab}} | a0 b1\n1: |")
        self.assertEqual(read_demand("demand 3\n0: {} {ab} | a0 b1\n1: |"),
                         (3, (((0, 3), (0, 1, -1)), ((), (-1, -1, -1)))))

    def test_numbers_of_many_figures(self):
        for many in (2, 3, 4, 5, 20, 4299, 4300, 4301, 5000, 100000):
            for figure in "019":
                number = figure * many
                self.no_demand(f"demand {number}\n0: |")
                self.no_demand(f"demand 1\n{number}: |")
                self.no_demand(f"demand 1\n0: |\n{number}: |")
                self.no_demand(f"demand 1\n0: {{a}} | a{number}")

    def test_other_heads(self):
        for head in ("", "demand", "demand ", "Demand 2", "DEMAND 2", "demands 2", "demand  2", " demand 2",
                     "demand 2 ",
                     "demand2", "demand\t2", "demand 2 2", "machine 2", "2 demand", "demand: 2", "2", "demand a"):
            self.no_demand(f"{head}\n0: {{}} {{ab}} | a0 b1\n1: |")
        for text in ("", "\n", " ", "0: |", "demand 2", "demand 2\n", "demand 2\n\n", "demand 2 0: |",
                     "demand 2\n1: |"):
            self.no_demand(text)

    def test_more_than_the_bounds(self):
        text = written_demand(anything(0)) + "".join(f"\n{at}: |" for at in range(1, 40))
        self.demand(read_demand(text))
        self.no_demand(text + "\n40: |")
        self.no_demand("demand 1\n" + "\n".join(f"{at}: |" for at in range(41)))
        self.no_demand("demand 1\n" + "\n".join(f"{at}: |" for at in range(20000)))
        self.no_demand(written_demand(chain(40))[:-1] + "| a40")
        self.no_demand("demand 1\n0: {a} | a1")

    def test_refused(self):
        for name, thing in BAD_DEMANDS.items():
            with self.subTest(name):
                self.assertRaises(BadDemand, written_demand, thing)
        self.assertRaises(BadDemand, written_demand, MACHINE)


class OtherTexts(Case):
    def test_the_text_of_the_other_kind(self):
        for demand in GOOD_DEMANDS.values():
            self.no_machine(written_demand(demand))
            self.no_machine(written_demand(demand).replace("demand", "machine"))
        for machine in (STILL, MACHINE, BRANCHING, ring(7)):
            self.no_demand(written_machine(machine))
            self.no_demand(written_machine(machine).replace("machine", "demand"))

    def test_what_is_no_text(self):
        for thing in (None, True, 0, (), ("machine 0\n0:",), b"machine 0\n0:", ["machine 0", "0:"], STILL, nothing(0)):
            self.no_machine(thing)
            self.no_demand(thing)

    def test_whatever_is_read_is_written_as_the_same(self):
        numbers = random.Random(103)
        words = ["machine", "demand", " ", "\n", "0", "1", "2", "3", "0:", "1:", "a0", "b1", "{}", "{a}", "|", " a0",
                 "\n0:", "\n1: |"]
        for _ in range(5000):
            text = numbers.choice(("machine 2\n0:", "demand 2\n0:", "")) + "".join(
                numbers.choice(words) for _ in range(numbers.randrange(6)))
            for reads, writes, by_words in ((read_machine, written_machine, machine_by_words),
                                            (read_demand, written_demand, demand_by_words)):
                told = by_words(text)
                if told is None:
                    self.assertRaises(BadText, reads, text)
                else:
                    self.assertEqual(reads(text), told)
                    self.assertEqual(writes(told), text)


if __name__ == "__main__":
    unittest.main()
