"""Tests of points 500 to 508: test sets."""

import copy
import itertools
import unittest
from unittest.mock import ANY

import oracle
import samples
from probewright import testsets
from probewright.circuits import Circuit
from probewright.errors import BadBreak, BadPattern
from probewright.generator import answer
from probewright.papers import agree, check_paper, together
from probewright.testsets import build, complete, drop, is_finished, merge, smallest, table, thin
from test_meaning import NO_PATTERNS, NO_VERSIONS
from test_papers import PARITY

LEAF = ("leaf",)
AND = (("a", "b"), (), (("z", "and", ("a", "b")),), ("z",))
CIRCUITS = (samples.HALF, samples.TWO_WAYS, samples.WIDE, samples.NARROW, samples.NO_GATES, PARITY,
            samples.ONLY_CONSTANTS, samples.NOTHING)


def breaks_of(parts):
    return samples.stems(parts) + samples.pins(parts) + samples.shorts(parts)


def shown_by(parts, patterns):
    """Return the dict from all breaks to the indexes of the patterns that show them."""
    right = [oracle.response(parts, None, pattern) for pattern in patterns]
    return {
        broken: [k for k, pattern in enumerate(patterns) if oracle.response(parts, broken, pattern) != right[k]]
        for broken in breaks_of(parts)
    }


def lists_of(parts):
    """Return some lists of patterns, with none, few, all and equal ones."""
    patterns = oracle.patterns_of(parts)
    return [[], patterns[:1], patterns[-2:], patterns, patterns[::-1], patterns[:2] * 3, patterns[1::2] + patterns[::2]]


class Tables(unittest.TestCase):
    def test_the_examples_of_the_document(self):
        circuit = Circuit(*AND)
        self.assertEqual(
            drop(circuit, [("stem", "a", 1), ("stem", "z", 0), ("stem", "z", 1)], [(1, 1), (0, 1)]),
            ([[("stem", "z", 0)], [("stem", "a", 1), ("stem", "z", 1)]], []))

    def test_by_hand(self):
        circuit = Circuit(*AND)
        breaks = [("stem", "z", 1), ("stem", "a", 1), ("stem", "z", 1), ("pin", "z", 1, 0), ("short", "a", "b", "and")]
        patterns = [(0, 0), (1, 1), (0, 1), (0, 0)]
        self.assertEqual(table(circuit, breaks, patterns), [(0, 2, 3), (2,), (0, 2, 3), (1,), ()])
        self.assertEqual(drop(circuit, breaks, patterns), (
            [[("stem", "z", 1), ("stem", "z", 1)], [("pin", "z", 1, 0)], [("stem", "a", 1)], []],
            [("short", "a", "b", "and")]))

    def test_no_breaks_and_no_patterns(self):
        circuit = Circuit(*AND)
        self.assertEqual(table(circuit, [], [(0, 0)]), [])
        self.assertEqual(table(circuit, [("stem", "z", 1)], []), [()])
        self.assertEqual(table(circuit, [], []), [])
        self.assertEqual(drop(circuit, [], [(0, 0), (0, 1)]), ([[], []], []))
        self.assertEqual(drop(circuit, [("stem", "z", 1)] * 2, []), ([], [("stem", "z", 1)] * 2))
        self.assertEqual(drop(circuit, [], []), ([], []))

    def test_all_breaks(self):
        for parts in CIRCUITS:
            circuit = Circuit(*parts)
            breaks = breaks_of(parts)
            breaks = breaks + breaks[::3]
            for patterns in lists_of(parts):
                with self.subTest(parts=parts, patterns=patterns):
                    shown = shown_by(parts, patterns)
                    self.assertEqual(
                        table(circuit, breaks, patterns), [tuple(shown[broken]) for broken in breaks])
                    rows, left = drop(circuit, breaks, patterns)
                    self.assertEqual(rows, [
                        [broken for broken in breaks if shown[broken][:1] == [k]] for k in range(len(patterns))])
                    self.assertEqual(left, [broken for broken in breaks if not shown[broken]])

    def test_more_patterns_than_bits_of_a_word(self):
        circuit = Circuit(*AND)
        patterns = [(1, 0)] * 700 + [(1, 1)] + [(0, 1)] * 299
        self.assertEqual(
            table(circuit, [("stem", "z", 0), ("stem", "b", 1)], patterns), [(700,), tuple(range(700))])


class Builds(unittest.TestCase):
    def test_by_hand(self):
        circuit = Circuit(*samples.TWO_WAYS)
        partials, patterns, papers = build(circuit, [("stem", "x", 0), ("stem", "y", 1), ("stem", "b", 1)])
        self.assertEqual(len(partials), 1)
        self.assertEqual(patterns, [tuple(item or 0 for item in partials[0])])
        self.assertEqual(patterns[0][1], 0)
        self.assertEqual([entry[0] for entry in papers], [("stem", "x", 0)])
        self.assertEqual(build(circuit, []), ([], [], []))

    def test_a_hidden_break_twice(self):
        circuit = Circuit(*samples.TWO_WAYS)
        papers = build(circuit, [("stem", "x", 0), ("stem", "x", 0)])[2]
        self.assertEqual([entry[0] for entry in papers], [("stem", "x", 0)] * 2)
        self.assertEqual(len(build(circuit, [("stem", "y", 0)] * 3)[1]), 1)

    def steps(self, circuit, parts, breaks, start):
        """Follow point 504 break by break."""
        partials, patterns, papers = [], list(start), []
        for broken in breaks:
            apart = oracle.parting(parts, None, broken)
            if not any(pattern in apart for pattern in patterns):
                word, found = answer(circuit, None, broken)
                if word == "parted":
                    partials.append(found)
                    patterns.append(tuple(item or 0 for item in found))
                else:
                    papers.append((broken, found))
        return partials, patterns, papers

    def test_against_all_patterns(self):
        circuits = list(CIRCUITS) + [samples.mixed(start, 1 + start % 5, 3 + start % 9) for start in range(12)]
        for parts in circuits:
            circuit = Circuit(*parts)
            breaks = breaks_of(parts)
            for row in (breaks, breaks[::-1], breaks[::4] + breaks[::6], []):
                with self.subTest(parts=parts, row=row):
                    partials, patterns, papers = build(circuit, row)
                    self.assertEqual((partials, patterns, papers), self.steps(circuit, parts, row, []))
                    hidden = [broken for broken in row if not oracle.parting(parts, None, broken)]
                    self.assertEqual([entry[0] for entry in papers], hidden)
                    for broken, paper in papers:
                        self.assertIsNone(check_paper(circuit, None, broken, paper))
                    for broken in row:
                        apart = set(oracle.parting(parts, None, broken))
                        self.assertEqual(bool(apart), bool(apart.intersection(patterns)))
                    self.assertIs(is_finished(circuit, row, patterns, papers), True)

    def test_complete(self):
        circuits = list(CIRCUITS) + [samples.mixed(start, 1 + start % 5, 3 + start % 9) for start in range(6)]
        for parts in circuits:
            circuit = Circuit(*parts)
            breaks = breaks_of(parts)
            for given in lists_of(parts):
                with self.subTest(parts=parts, given=given):
                    kept = list(given)
                    patterns, papers = complete(circuit, breaks, given)
                    self.assertEqual(given, kept)
                    _, expected, proved = self.steps(circuit, parts, breaks, given)
                    self.assertEqual((patterns, papers), (expected, proved))
                    self.assertEqual(patterns[:len(given)], given)
                    self.assertIs(is_finished(circuit, breaks, patterns, papers), True)

    def test_complete_by_hand(self):
        circuit = Circuit(*AND)
        self.assertEqual(complete(circuit, [], [(0, 0), (0, 0)]), ([(0, 0), (0, 0)], []))
        self.assertEqual(complete(circuit, [("stem", "z", 0)], []), ([(1, 1)], []))
        self.assertEqual(complete(circuit, [("stem", "z", 0)], [(1, 1)]), ([(1, 1)], []))
        self.assertEqual(complete(circuit, [("stem", "a", 1)], [(1, 1)]), ([(1, 1), (0, 1)], []))

    def test_what_is_returned_may_be_changed(self):
        circuit = Circuit(*AND)
        given = [(1, 1)]
        patterns, papers = complete(circuit, [("stem", "z", 0)], given)
        patterns.append((0, 0))
        papers.append(7)
        self.assertEqual(given, [(1, 1)])
        for rows in (build(circuit, breaks_of(AND)), drop(circuit, breaks_of(AND), given)):
            for row in rows:
                row.clear()
        self.assertEqual(build(circuit, [("stem", "z", 0)]), ([(1, 1)], [(1, 1)], []))


class Finished(unittest.TestCase):
    def test_with_each_part_left_out(self):
        for parts in (samples.TWO_WAYS, samples.NARROW, samples.WIDE, PARITY):
            circuit = Circuit(*parts)
            breaks = breaks_of(parts)
            _, patterns, papers = build(circuit, breaks)
            self.assertTrue(papers)
            for k in range(len(patterns)):
                left = patterns[:k] + patterns[k + 1:]
                shown = shown_by(parts, left)
                finished = all(shown[broken] or not oracle.parting(parts, None, broken) for broken in breaks)
                self.assertIs(is_finished(circuit, breaks, left, papers), finished)
            for k in range(len(papers)):
                self.assertIs(is_finished(circuit, breaks, patterns, papers[:k] + papers[k + 1:]), False)
            self.assertIs(is_finished(circuit, breaks, [], papers), False)
            self.assertIs(is_finished(circuit, breaks, patterns, []), False)
            self.assertIs(is_finished(circuit, breaks, patterns[::-1], papers[::-1]), True)
            self.assertIs(is_finished(circuit, breaks, oracle.patterns_of(parts), papers + papers), True)

    def test_a_thin_set_lacks_each_of_its_patterns(self):
        circuit = Circuit(*AND)
        breaks = [("stem", "a", 1), ("stem", "b", 1), ("stem", "z", 0)]
        patterns = [(0, 1), (1, 0), (1, 1)]
        self.assertIs(is_finished(circuit, breaks, patterns, []), True)
        for k in range(3):
            self.assertIs(is_finished(circuit, breaks, patterns[:k] + patterns[k + 1:], []), False)

    def test_wrong_entries(self):
        circuit = Circuit(*samples.TWO_WAYS)
        breaks = [("stem", "x", 0), ("stem", "y", 0)]
        right = (("stem", "x", 0), ("case", 0, LEAF, LEAF))
        patterns = [(0, 1)]
        self.assertIs(is_finished(circuit, breaks, patterns, [right]), True)
        # An entry for another break that is hidden does no harm.
        more = (("pin", "x", 0, 0), ("case", 0, LEAF, LEAF))
        self.assertIs(is_finished(circuit, breaks, patterns, [more, right, more]), True)
        self.assertIs(is_finished(circuit, breaks, patterns, [more]), False)
        wrong = [
            (None, LEAF), (None, ("case", 0, LEAF, LEAF)), (("stem", "u", 0), LEAF), (("stem", "x", 2), LEAF),
            (("stem", "x", False), ("case", 0, LEAF, LEAF)), (["stem", "x", 0], ("case", 0, LEAF, LEAF)),
            (("stem", "x", 0), LEAF), (("stem", "x", 0), None), (("stem", "x", 0), ANY), (ANY, LEAF),
            (ANY, ("case", 0, LEAF, LEAF)), (("stem", "x", 0), ("case", 2, LEAF, LEAF)),
            (("stem", "x", 0), ["case", 0, LEAF, LEAF]), (("stem", "y", 1), ("case", 0, LEAF, LEAF)),
            (("stem", "y", 0), LEAF), (("stem", "y", 0), ("case", 1, LEAF, LEAF)), ("stem", LEAF), (7, LEAF),
            (("stem", "x", 0), ("case", 1, LEAF, LEAF)), right[:1], right + (0,), list(right), None, 7, "x", (), ANY,
        ]
        for entry in wrong:
            for papers in ([entry], [right, entry], [entry, right]):
                with self.subTest(papers=papers):
                    self.assertIs(is_finished(circuit, breaks, patterns, papers), False)
                    # Also where no paper is needed at all.
                    self.assertIs(is_finished(circuit, [], [], papers), False)

    def test_nothing_to_do(self):
        circuit = Circuit(*AND)
        self.assertIs(is_finished(circuit, [], [], []), True)
        self.assertIs(is_finished(circuit, [], [(0, 1)], []), True)
        self.assertIs(is_finished(circuit, [("stem", "z", 0)], [], []), False)

    def test_a_break_that_is_shown_and_has_a_wrong_paper(self):
        circuit = Circuit(*AND)
        self.assertIs(is_finished(circuit, [("stem", "z", 0)], [(1, 1)], [(("stem", "z", 0), LEAF)]), False)


class Merges(unittest.TestCase):
    def test_by_hand(self):
        self.assertEqual(merge([(1, None, None), (0, None, 1), (None, 0, None)]), [(1, 0, None), (0, None, 1)])
        self.assertEqual(merge([]), [])
        self.assertEqual(merge([()]), [()])
        self.assertEqual(merge([(), (), ()]), [()])
        self.assertEqual(merge([(0,), (1,), (0,), (None,)]), [(0,), (1,)])
        self.assertEqual(merge([(None,), (1,), (0,)]), [(1,), (0,)])
        # The first one that agrees, as it has become by then.
        self.assertEqual(
            merge([(0, None), (None, 0), (0, 1), (None, None), (None, 1)]), [(0, 0), (0, 1)])

    def test_step_by_step(self):
        numbers = samples.Numbers(77)
        for length in range(5):
            for many in range(12):
                row = [tuple((0, 1, None, None)[numbers.below(4)] for _ in range(length)) for _ in range(many)]
                kept = list(row)
                expected = []
                for partial in row:
                    for k, other in enumerate(expected):
                        if agree(other, partial):
                            expected[k] = together(other, partial)
                            break
                    else:
                        expected.append(partial)
                with self.subTest(row=row):
                    self.assertEqual(merge(row), expected)
                    self.assertEqual(row, kept)
                    for partial in row:
                        self.assertTrue(any(
                            set(oracle.filling(found)) <= set(oracle.filling(partial)) for found in expected))

    def test_merged_patterns_show_what_the_partial_ones_show(self):
        for parts in CIRCUITS:
            circuit = Circuit(*parts)
            breaks = breaks_of(parts)
            partials = [found for word, found in (answer(circuit, None, broken) for broken in breaks)
                        if word == "parted"]
            for bit in (0, 1):
                patterns = [tuple(bit if item is None else item for item in partial) for partial in merge(partials)]
                for broken in breaks:
                    apart = oracle.parting(parts, None, broken)
                    self.assertEqual(bool(apart), any(pattern in apart for pattern in patterns))


class Thins(unittest.TestCase):
    def test_by_hand(self):
        circuit = Circuit(*AND)
        breaks = [("stem", "z", 1), ("stem", "a", 1)]
        self.assertEqual(thin(circuit, breaks, [(0, 0), (0, 1), (1, 0), (1, 1)]), [(0, 1)])
        self.assertEqual(thin(circuit, breaks, [(0, 1), (0, 1), (0, 1)]), [(0, 1)])
        self.assertEqual(thin(circuit, breaks[:1], [(0, 0), (1, 0), (0, 1)]), [(0, 0)])
        self.assertEqual(thin(circuit, breaks, []), [])
        self.assertEqual(thin(circuit, [], [(0, 1), (1, 1)]), [])
        self.assertEqual(thin(circuit, [("stem", "z", 0), ("stem", "b", 1)], [(1, 0), (0, 0), (1, 1)]),
                         [(1, 0), (1, 1)])

    def test_pattern_by_pattern(self):
        for parts in CIRCUITS:
            circuit = Circuit(*parts)
            breaks = breaks_of(parts)
            for patterns in lists_of(parts) + [build(circuit, breaks)[1]]:
                for row in (breaks, breaks[::5], breaks[::3] + breaks[::2]):
                    kept = list(patterns)
                    left = list(range(len(patterns)))
                    shown = shown_by(parts, patterns)
                    for k in reversed(range(len(patterns))):
                        others = [other for other in left if other != k]
                        if all(set(shown[b]).intersection(others) for b in row if k in shown[b]):
                            left = others
                    with self.subTest(parts=parts, patterns=patterns, row=row):
                        found = thin(circuit, row, patterns)
                        self.assertEqual(found, [patterns[k] for k in left])
                        self.assertEqual(patterns, kept)
                        for broken in row:
                            self.assertEqual(
                                bool(shown[broken]), bool(set(shown[broken]).intersection(left)))


class Smallest(unittest.TestCase):
    def test_by_hand(self):
        self.assertEqual(testsets.MOST_CHOICES, 16)
        self.assertIs(type(testsets.MOST_CHOICES), int)
        self.assertEqual(smallest([(0, 2), (1,), (), (1, 2)], 3), (0, 1))
        self.assertEqual(smallest([], 0), ())
        self.assertEqual(smallest([], 5), ())
        self.assertEqual(smallest([(), ()], 0), ())
        self.assertEqual(smallest([()], 16), ())
        self.assertEqual(smallest([(3,)], 4), (3,))
        self.assertEqual(smallest([(0, 1, 2)], 3), (0,))
        self.assertEqual(smallest([(0, 1), (1, 2)], 3), (1,))
        # A tie: the least tuple.
        self.assertEqual(smallest([(1, 2), (3, 0)], 4), (0, 1))
        self.assertEqual(smallest([(0, 3), (1, 3), (2, 4)], 5), (2, 3))
        self.assertEqual(smallest([(0, 1), (2, 3), (0, 1)], 4), (0, 2))

    def test_against_all_choices(self):
        numbers = samples.Numbers(5)
        for count in range(8):
            for many in range(9):
                rows = [tuple(k for k in range(count) if numbers.below(3) == 0) for _ in range(many)]
                fitting = [
                    chosen for size in range(count + 1) for chosen in itertools.combinations(range(count), size)
                    if all(set(row).intersection(chosen) for row in rows if row)]
                with self.subTest(rows=rows, count=count):
                    kept = list(rows)
                    self.assertEqual(smallest(rows, count), min(fitting, key=lambda chosen: (len(chosen), chosen)))
                    self.assertEqual(rows, kept)

    def test_sixteen_and_seventeen(self):
        rows = [(k,) for k in range(16)]
        self.assertEqual(smallest(rows, 16), tuple(range(16)))
        self.assertEqual(smallest([(k, 15 - k) for k in range(16)], 16), tuple(range(8)))
        for count in (17, 18, 1000):
            self.assertRaises(BadPattern, smallest, [], count)
            self.assertRaises(BadPattern, smallest, [(0,)], count)
            self.assertRaises(BadPattern, smallest, rows + [(16,)], count)

    def test_tables_of_circuits(self):
        for parts in (samples.HALF, samples.TWO_WAYS, samples.NARROW, PARITY):
            circuit = Circuit(*parts)
            breaks = breaks_of(parts)
            patterns = oracle.patterns_of(parts)
            found = smallest(table(circuit, breaks, patterns), len(patterns))
            chosen = [patterns[k] for k in found]
            self.assertEqual(drop(circuit, breaks, chosen)[1], drop(circuit, breaks, patterns)[1])


class WrongArguments(unittest.TestCase):
    CALLS = (
        table, drop, complete, thin, lambda circuit, breaks, patterns: is_finished(circuit, breaks, patterns, []),
        lambda circuit, breaks, patterns: is_finished(circuit, breaks, patterns, [(None, LEAF)]))

    def test_values_that_are_no_breaks(self):
        circuit = Circuit(*samples.HALF)
        right = ("stem", "a", 0)
        for value in [None] + NO_VERSIONS + samples.STRANGE:
            for breaks in ([value], [right, value], [value, right], [right, right, value]):
                with self.subTest(breaks=breaks):
                    self.assertRaises(BadBreak, build, circuit, breaks)
                    for call in self.CALLS:
                        self.assertRaises(BadBreak, call, circuit, breaks, [])
                        self.assertRaises(BadBreak, call, circuit, breaks, [(0, 1)])
                        # Both at once.
                        self.assertRaises(BadBreak, call, circuit, breaks, [(0,)])

    def test_values_that_are_no_patterns(self):
        circuit = Circuit(*samples.HALF)
        for value in NO_PATTERNS + samples.STRANGE:
            for patterns in ([value], [(0, 1), value], [value, (0, 1)]):
                for breaks in ([], [("stem", "a", 0)]):
                    with self.subTest(patterns=patterns):
                        for call in self.CALLS:
                            self.assertRaises(BadPattern, call, circuit, breaks, patterns)


class Arguments(unittest.TestCase):
    def test_they_stay(self):
        for parts in (samples.TWO_WAYS, samples.WIDE):
            circuit = Circuit(*parts)
            breaks = breaks_of(parts)
            patterns = oracle.patterns_of(parts)[::2]
            papers = build(circuit, breaks)[2]
            rows = table(circuit, breaks, patterns)
            kept = copy.deepcopy((vars(circuit), breaks, patterns, papers, rows))
            for call in (table, drop, complete, thin):
                call(circuit, breaks, patterns)
            build(circuit, breaks)
            is_finished(circuit, breaks, patterns, papers)
            smallest(rows, len(patterns))
            self.assertEqual((vars(circuit), breaks, patterns, papers, rows), kept)

    def test_new_lists(self):
        circuit = Circuit(*AND)
        patterns = [(0, 1), (1, 1)]
        self.assertIsNot(thin(circuit, [("stem", "z", 0), ("stem", "a", 1)], patterns), patterns)
        partials = [(0, 1), (1, None)]
        self.assertEqual(merge(partials), partials)
        self.assertIsNot(merge(partials), partials)
        rows, left = drop(circuit, [("stem", "z", 0)], patterns)
        rows[0].append(7)
        left.append(7)
        self.assertEqual(drop(circuit, [("stem", "z", 0)], patterns), ([[], [("stem", "z", 0)]], []))


if __name__ == "__main__":
    unittest.main()
