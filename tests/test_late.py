"""Tests of points 900 to 902: late lines."""

import copy
import itertools
import unittest
from unittest.mock import ANY

import oracle
import samples
from probewright.circuits import Circuit
from probewright.errors import BadBreak, BadPaper, BadPattern
from probewright.late import check_late_paper, check_never, is_late, late_answer, late_response, reach, shows_late
from probewright.papers import check_paper
from test_meaning import NO_PATTERNS
from test_pairs import NO_PARTIALS
from test_papers import LEAF, PARITY, full_paper, papers_of

CIRCUITS = (samples.HALF, samples.TWO_WAYS, samples.WIDE, samples.NARROW, samples.ONLY_CONSTANTS, PARITY,
            (("a",), (("p", "x"), ("q", "q")), (("n", "not", ("p",)), ("x", "and", ("p", "n", "a"))), ("q",)))

NO_LATES = [
    ("late", "u", 0), ("late", "a", 2), ("late", "a", -1), ("late", "a", True), ("late", "a", False),
    ("late", "a", None), ("late", "a", "0"), ("late", "a", 0.0), ("late", "a"), ("late", "a", 0, 0), ["late", "a", 0],
    ("stem", "a", 0), ("Late", "a", 0), ("late", 0, "a"), ("late", ["a"], 0), ("late", ("a",), 0), ("late", None, 0),
    ("late", "", 0), (["late"], "a", 0), (b"late", "a", 0), (None, "a", 0), (ANY, "a", 0), ("late", ANY, 0),
    ("late", "a", ANY), ("pin", "s", 0, 0), ("short", "a", "b", "and"), ("late",), "late",
]


def lates_of(parts):
    return [("late", line, value) for line in oracle.lines_of(parts) for value in (0, 1)]


class IsLate(unittest.TestCase):
    def test_all_lines(self):
        for parts in CIRCUITS:
            circuit = Circuit(*parts)
            for late in lates_of(parts):
                self.assertIs(is_late(circuit, late), True)

    def test_values_of_any_kind(self):
        circuit = Circuit(*samples.HALF)
        for value in NO_LATES + samples.STRANGE:
            with self.subTest(value=value):
                self.assertIs(is_late(circuit, value), False)


class Responses(unittest.TestCase):
    def test_by_hand(self):
        circuit = Circuit(*samples.HALF)
        # The line `a` rises too late.
        self.assertEqual(late_response(circuit, ("late", "a", 1), (0, 1), (1, 1)), (1, 0))
        self.assertEqual(late_response(circuit, ("late", "a", 1), (1, 1), (1, 1)), (0, 1))
        self.assertEqual(late_response(circuit, ("late", "a", 1), (0, 1), (0, 0)), (0, 0))
        self.assertEqual(late_response(circuit, ("late", "a", 0), (0, 1), (1, 1)), (0, 1))
        self.assertEqual(late_response(circuit, ("late", "a", 0), (1, 1), (0, 1)), (0, 1))
        self.assertIs(shows_late(circuit, ("late", "a", 1), (0, 1), (1, 1)), True)
        self.assertIs(shows_late(circuit, ("late", "a", 1), (1, 1), (1, 1)), False)
        self.assertIs(shows_late(circuit, ("late", "c", 1), (0, 1), (1, 1)), True)
        self.assertIs(shows_late(circuit, ("late", "c", 1), (0, 1), (1, 0)), False)

    def test_all_pairs(self):
        for parts in CIRCUITS + (samples.NO_GATES,):
            circuit = Circuit(*parts)
            patterns = oracle.patterns_of(parts)
            right = {pattern: oracle.values(parts, None, pattern) for pattern in patterns}
            for late in lates_of(parts):
                _, line, value = late
                for first, second in itertools.product(patterns, repeat=2):
                    held = right[first][line] == 1 - value and right[second][line] == value
                    expected = oracle.response(parts, ("stem", line, 1 - value) if held else None, second)
                    self.assertEqual(late_response(circuit, late, first, second), expected)
                    self.assertIs(
                        shows_late(circuit, late, first, second), expected != oracle.response(parts, None, second))

    def test_wrong_arguments(self):
        circuit = Circuit(*samples.HALF)
        for call in (late_response, shows_late):
            for late in NO_LATES + samples.STRANGE:
                with self.subTest(late=late):
                    self.assertRaises(BadBreak, call, circuit, late, (0, 0), (0, 1))
                    self.assertRaises(BadBreak, call, circuit, late, None, (0, 1))
                    self.assertRaises(BadBreak, call, circuit, late, (0, 0), (0,))
            for pattern in NO_PATTERNS + samples.STRANGE:
                for late in (("late", "a", 0), ("late", "s", 1)):
                    with self.subTest(pattern=pattern):
                        self.assertRaises(BadPattern, call, circuit, late, pattern, (0, 0))
                        self.assertRaises(BadPattern, call, circuit, late, (0, 0), pattern)
                        self.assertRaises(BadPattern, call, circuit, late, pattern, pattern)


def has(parts, line, bit, pattern):
    return oracle.values(parts, None, pattern)[line] == bit


class Reaches(unittest.TestCase):
    def test_all_partial_patterns(self):
        for parts in CIRCUITS:
            circuit = Circuit(*parts)
            sources = oracle.sources_of(parts)
            values = {pattern: oracle.values(parts, None, pattern) for pattern in oracle.patterns_of(parts)}
            for partial in oracle.partials_of(parts):
                for line, bit in itertools.product(oracle.lines_of(parts), (0, 1)):
                    with self.subTest(parts=parts, partial=partial, line=line, bit=bit):
                        fitting = [p for p in oracle.filling(partial) if values[p][line] == bit]
                        word, found = reach(circuit, line, bit, partial)
                        if fitting:
                            self.assertEqual(word, "reached")
                            self.assertEqual(len(found), len(sources))
                            self.assertTrue(set(oracle.filling(found)) <= set(fitting))
                        else:
                            self.assertEqual(word, "never")
                            self.assertIsNone(check_never(circuit, line, bit, partial, found))

    def test_by_hand(self):
        circuit = Circuit(*samples.TWO_WAYS)
        self.assertEqual(reach(circuit, "a", 1, (None, None)), ("reached", (1, None)))
        self.assertEqual(reach(circuit, "a", 1, (0, None)), ("never", LEAF))
        self.assertEqual(reach(circuit, "n", 1, (None, 1)), ("reached", (0, 1)))
        self.assertEqual(reach(circuit, "x", 1, (None, None)), ("never", ("case", 0, LEAF, LEAF)))
        self.assertEqual(reach(circuit, "x", 1, (1, None)), ("never", LEAF))

    def test_values_that_are_no_partial_pattern(self):
        circuit = Circuit(*samples.HALF)
        for partial in NO_PARTIALS + samples.STRANGE:
            with self.subTest(partial=partial):
                self.assertRaises(BadPattern, reach, circuit, "s", 1, partial)

    def test_no_sources(self):
        circuit = Circuit(*samples.ONLY_CONSTANTS)
        self.assertEqual(reach(circuit, "h", 1, ()), ("reached", ()))
        self.assertEqual(reach(circuit, "h", 0, ()), ("never", LEAF))


class NeverPapers(unittest.TestCase):
    def takes(self, circuit, line, bit, partial, paper):
        with self.subTest(line=line, bit=bit, partial=partial, paper=paper):
            self.assertIsNone(check_never(circuit, line, bit, partial, paper))

    def refuses(self, circuit, line, bit, partial, paper):
        with self.subTest(line=line, bit=bit, partial=partial, paper=paper):
            self.assertRaises(BadPaper, check_never, circuit, line, bit, partial, paper)

    def is_right(self, parts, line, bit, partial, paper):
        """Follow point 902 for a value that has the form of a paper."""
        if paper == LEAF:
            return oracle.marks(parts, None, None, partial)[line] == (8 if bit == 0 else 1)
        _, index, zero, one = paper
        return partial[index] is None and all(
            self.is_right(parts, line, bit, partial[:index] + (given,) + partial[index + 1:], part)
            for given, part in ((0, zero), (1, one)))

    def test_all_papers_over_two_sources(self):
        for parts in (samples.HALF, samples.TWO_WAYS, samples.NARROW):
            circuit = Circuit(*parts)
            for paper in papers_of([0, 1]):
                for partial in oracle.partials_of(parts):
                    for line, bit in itertools.product(oracle.lines_of(parts), (0, 1)):
                        if self.is_right(parts, line, bit, partial, paper):
                            self.takes(circuit, line, bit, partial, paper)
                            self.assertFalse(any(has(parts, line, bit, p) for p in oracle.filling(partial)))
                        else:
                            self.refuses(circuit, line, bit, partial, paper)

    def test_by_hand(self):
        circuit = Circuit(*PARITY)
        for indexes in itertools.permutations(range(3)):
            self.takes(circuit, "d", 1, (None, None, None), full_paper(indexes))
            self.refuses(circuit, "d", 0, (None, None, None), full_paper(indexes))
        self.takes(circuit, "d", 1, (0, None, None), full_paper((1, 2)))
        self.takes(circuit, "d", 1, (0, 1, 0), LEAF)
        self.refuses(circuit, "d", 1, (0, 1, None), LEAF)
        # A case of a source that is not open.
        self.refuses(circuit, "d", 1, (0, None, None), full_paper((0, 1, 2)))
        # What is equal all the same in two right circuits is not enough.
        self.refuses(circuit, "a", 1, (None, None, None), LEAF)

    def test_one_change(self):
        circuit = Circuit(*samples.TWO_WAYS)
        paper = ("case", 0, LEAF, LEAF)
        self.takes(circuit, "x", 1, (None, None), paper)
        wrong = [LEAF, ("case", 0, LEAF), ("case", 1, LEAF, LEAF), ("case", 2, LEAF, LEAF), ("case", -1, LEAF, LEAF),
                 ("case", False, LEAF, LEAF), ("case", 0, LEAF, ("leaf", 0)), ("case", 0, ["leaf"], LEAF),
                 ["case", 0, LEAF, LEAF], ("case", 0, LEAF, LEAF, LEAF), ("cases", 0, LEAF, LEAF),
                 ("case", 0, ("case", 0, LEAF, LEAF), LEAF), ("case", None, LEAF, LEAF), ("case", ANY, LEAF, LEAF)]
        for changed in wrong + samples.STRANGE:
            self.refuses(circuit, "x", 1, (None, None), changed)
            if changed is ANY or changed not in (LEAF, ("case", 1, LEAF, LEAF)):
                self.refuses(circuit, "x", 1, (None, None), ("case", 0, LEAF, changed))
        self.takes(circuit, "x", 1, (None, None), ("case", 0, LEAF, ("case", 1, LEAF, LEAF)))

    def test_values_that_are_no_partial_pattern(self):
        circuit = Circuit(*samples.TWO_WAYS)
        for partial in NO_PARTIALS + samples.STRANGE:
            for paper in (LEAF, ("case", 0, LEAF, LEAF), None, 7):
                with self.subTest(partial=partial, paper=paper):
                    self.assertRaises(BadPattern, check_never, circuit, "x", 1, partial, paper)


class Answers(unittest.TestCase):
    def follows(self, parts, late):
        circuit = Circuit(*parts)
        _, line, value = late
        patterns = oracle.patterns_of(parts)
        found = late_answer(circuit, late)
        reached = any(has(parts, line, 1 - value, pattern) for pattern in patterns)
        apart = oracle.parting(parts, None, ("stem", line, 1 - value))
        with self.subTest(parts=parts, late=late, found=found):
            self.assertIs(type(found), tuple)
            if not reached:
                self.assertEqual((found[0], len(found)), ("never", 2))
                self.assertIsNone(check_never(circuit, line, 1 - value, (None,) * len(patterns[0]), found[1]))
            elif apart:
                self.assertEqual((found[0], len(found)), ("pair", 3))
                self.assertIs(shows_late(circuit, late, found[1], found[2]), True)
                self.assertRaises(BadPaper, check_late_paper, circuit, late, found)
            else:
                self.assertEqual((found[0], len(found)), ("alike", 2))
            if found[0] != "pair":
                self.assertIsNone(check_late_paper(circuit, late, found))
                self.assertFalse(any(
                    shows_late(circuit, late, first, second) for first in patterns for second in patterns))
        return found[0]

    def test_all_late_lines(self):
        words = [self.follows(parts, late) for parts in CIRCUITS + (samples.NO_GATES,) for late in lates_of(parts)]
        for start in range(12):
            parts = samples.mixed(start, 1 + start % 4, 3 + start % 8)
            words.extend(self.follows(parts, late) for late in lates_of(parts))
        self.assertEqual(set(words), {"never", "pair", "alike"})

    def test_by_hand(self):
        circuit = Circuit(*samples.TWO_WAYS)
        self.assertEqual(late_answer(circuit, ("late", "x", 0)), ("never", ("case", 0, LEAF, LEAF)))
        self.assertEqual(late_answer(circuit, ("late", "x", 1))[0], "alike")
        self.assertEqual(late_answer(circuit, ("late", "a", 1))[0], "alike")
        word, first, second = late_answer(circuit, ("late", "b", 1))
        self.assertEqual((word, first[1], second[1]), ("pair", 0, 1))

    def test_wrong_late_lines(self):
        circuit = Circuit(*samples.HALF)
        for late in NO_LATES + samples.STRANGE:
            with self.subTest(late=late):
                self.assertRaises(BadBreak, late_answer, circuit, late)


def is_taken(check, *values):
    """Tell whether a check takes some values or raises BadPaper."""
    try:
        check(*values)
    except BadPaper:
        return False
    return True


class LatePapers(unittest.TestCase):
    def test_answers_for_other_late_lines(self):
        for parts in (samples.TWO_WAYS, samples.NARROW, PARITY, CIRCUITS[-1]):
            circuit = Circuit(*parts)
            empty = (None,) * len(circuit.sources())
            found = [late_answer(circuit, late) for late in lates_of(parts)]
            self.assertGreater(len({answer[0] for answer in found}), 1)
            for late in lates_of(parts):
                _, line, value = late
                for answer in found:
                    right = False
                    if answer[0] == "never":
                        right = is_taken(check_never, circuit, line, 1 - value, empty, answer[1])
                    if answer[0] == "alike":
                        right = is_taken(check_paper, circuit, None, ("stem", line, 1 - value), answer[1])
                    with self.subTest(parts=parts, late=late, answer=answer):
                        self.assertIs(is_taken(check_late_paper, circuit, late, answer), right)

    def test_values_of_any_kind(self):
        circuit = Circuit(*samples.TWO_WAYS)
        paper = ("case", 0, LEAF, LEAF)
        for late, word in ((("late", "x", 0), "never"), (("late", "x", 1), "alike")):
            self.assertIsNone(check_late_paper(circuit, late, (word, paper)))
            wrong = [
                (word,), (word, paper, paper), [word, paper], (word, LEAF), (word, None), (word, ANY), (word, [paper]),
                (ANY, paper), (None, paper), ("pair", paper), ("", paper), (word.upper(), paper), (b"never", paper),
                (["never"], paper), ("pair", (0, 0), (0, 1)), paper, LEAF, word, (paper, word),
                (word, ("case", 1, LEAF, LEAF)), (word, ("case", 0, LEAF)), (word, ["case", 0, LEAF, LEAF]),
            ]
            for value in wrong + samples.STRANGE:
                with self.subTest(late=late, value=value):
                    self.assertRaises(BadPaper, check_late_paper, circuit, late, value)
        self.assertRaises(BadPaper, check_late_paper, circuit, ("late", "x", 1), ("never", paper))
        self.assertRaises(BadPaper, check_late_paper, circuit, ("late", "b", 1), ("alike", paper))

    def test_wrong_late_lines(self):
        circuit = Circuit(*samples.TWO_WAYS)
        for late in [("late", "u", 0), ("late", "x", 2), ("late", "x", True), ("stem", "x", 0), None, 7]:
            with self.subTest(late=late):
                self.assertRaises(BadBreak, check_late_paper, circuit, late, ("never", ("case", 0, LEAF, LEAF)))

    def test_what_is_passed_stays(self):
        circuit = Circuit(*PARITY)
        kept = copy.deepcopy(vars(circuit))
        for late in lates_of(PARITY):
            late_answer(circuit, late)
            reach(circuit, late[1], late[2], (None, 0, None))
        self.assertEqual(vars(circuit), kept)


if __name__ == "__main__":
    unittest.main()
