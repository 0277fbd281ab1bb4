"""Tests of points 800 to 802: what observed responses tell."""

import copy
import itertools
import unittest
from unittest.mock import ANY

import oracle
import samples
from probewright.circuits import Circuit
from probewright.errors import BadBreak, BadPattern
from probewright.findings import Finder, allowed, groups, next_pattern
from probewright.papers import check_paper
from test_meaning import NO_PATTERNS, NO_VERSIONS

NO_ROWS = [(), (0,), (0, 0, 0), [0, 0], (True, 0), (0, False), (2, 0), (-1, 0), (None, 0), ("0", "0"), "00", b"00",
           None, 0, {0: 0, 1: 0}, ((0, 0),), (0.0, 0), ANY, (ANY, ANY), object()]
CIRCUITS = (samples.HALF, samples.TWO_WAYS, samples.NARROW, samples.WIDE, samples.ONLY_CONSTANTS, samples.NOTHING)


def rows_of(parts, version, patterns):
    return [oracle.response(parts, version, pattern) for pattern in patterns]


class Allowed(unittest.TestCase):
    def test_by_hand(self):
        circuit = Circuit(*samples.HALF)
        versions = [("stem", "c", 0), None, ("stem", "s", 1), None]
        self.assertEqual(allowed(circuit, versions, [(1, 1)], [(0, 1)]), [None, None])
        self.assertEqual(allowed(circuit, versions, [(1, 1)], [(0, 0)]), [("stem", "c", 0)])
        self.assertEqual(allowed(circuit, versions, [(1, 0)], [(1, 0)]), versions)
        self.assertEqual(allowed(circuit, versions, [(1, 0), (1, 1)], ((1, 0), (1, 1))), [("stem", "s", 1)])
        self.assertEqual(allowed(circuit, versions, [(1, 1)], [(1, 0)]), [])

    def test_no_patterns_and_no_versions(self):
        for parts in CIRCUITS:
            circuit = Circuit(*parts)
            versions = samples.versions(parts)
            for observed in ([], ()):
                self.assertEqual(allowed(circuit, versions, [], observed), versions)
                self.assertEqual(allowed(circuit, [], [], observed), [])
            for pattern in oracle.patterns_of(parts)[:2]:
                self.assertEqual(allowed(circuit, [], [pattern], [oracle.response(parts, None, pattern)]), [])

    def test_the_responses_of_each_version(self):
        for parts in CIRCUITS:
            circuit = Circuit(*parts)
            versions = samples.versions(parts)
            patterns = oracle.patterns_of(parts)
            for chosen in (patterns[:1], patterns[-2:], patterns, patterns[:1] * 3):
                rows = {version: rows_of(parts, version, chosen) for version in versions}
                for version in versions[::2]:
                    expected = [other for other in versions if rows[other] == rows[version]]
                    with self.subTest(parts=parts, chosen=chosen, version=version):
                        self.assertEqual(allowed(circuit, versions, chosen, rows[version]), expected)
                        self.assertEqual(allowed(circuit, versions, chosen, tuple(rows[version])), expected)

    def test_wrong_observed_values(self):
        circuit = Circuit(*samples.HALF)
        patterns = [(0, 1), (1, 1)]
        right = [(1, 0), (0, 1)]
        wrong = [[], right[:1], right + right[:1], None, 0, "01", {0: (1, 0), 1: (0, 1)}, ANY, (), (right,)]
        for row in NO_ROWS:
            wrong.extend([[row, (0, 1)], [(1, 0), row], (row, (0, 1)), [row, row]])
        for observed in wrong:
            for versions in ([], [None], [None, ("stem", "a", 0)]):
                with self.subTest(observed=observed, versions=versions):
                    self.assertRaises(BadPattern, allowed, circuit, versions, patterns, observed)
        for row in NO_ROWS:
            self.assertRaises(BadPattern, allowed, circuit, [None], [], [row])
        self.assertEqual(allowed(circuit, [None], patterns, right), [None])

    def test_wrong_versions_and_patterns(self):
        circuit = Circuit(*samples.HALF)
        for value in NO_VERSIONS + samples.STRANGE:
            if value is None:
                continue
            for versions in ([value], [None, value], [value, ("stem", "a", 0)]):
                with self.subTest(versions=versions):
                    self.assertRaises(BadBreak, allowed, circuit, versions, [(0, 1)], [(1, 0)])
                    self.assertRaises(BadBreak, allowed, circuit, versions, [(0,)], [(1, 0)])
                    self.assertRaises(BadBreak, allowed, circuit, versions, [(0, 1)], None)
                    self.assertRaises(BadBreak, groups, circuit, versions, [(0, 1)])
                    self.assertRaises(BadBreak, groups, circuit, versions, [None])
                    self.assertRaises(BadBreak, next_pattern, circuit, versions)
                    self.assertRaises(BadBreak, Finder, circuit, versions)
        for value in NO_PATTERNS + samples.STRANGE:
            for patterns in ([value], [(0, 1), value]):
                with self.subTest(patterns=patterns):
                    for versions in ([], [None, ("stem", "a", 0)]):
                        self.assertRaises(BadPattern, allowed, circuit, versions, patterns, [(1, 0)] * len(patterns))
                        self.assertRaises(BadPattern, groups, circuit, versions, patterns)


class Groups(unittest.TestCase):
    def test_by_hand(self):
        circuit = Circuit(*samples.HALF)
        a, b, c = ("stem", "c", 0), ("pin", "c", 0, 0), ("stem", "s", 1)
        self.assertEqual(groups(circuit, [a, None, c, b, None], [(1, 1)]), [[a, b], [None, None], [c]])
        self.assertEqual(groups(circuit, [a, None, c, b], [(0, 1)]), [[a, None, c, b]])
        self.assertEqual(groups(circuit, [a, None], []), [[a, None]])
        self.assertEqual(groups(circuit, [], []), [])
        self.assertEqual(groups(circuit, [], [(0, 1)]), [])
        self.assertEqual(groups(circuit, [None], [(0, 1), (1, 1)]), [[None]])

    def test_all_versions(self):
        for parts in CIRCUITS:
            circuit = Circuit(*parts)
            patterns = oracle.patterns_of(parts)
            for versions in (samples.versions(parts), samples.versions(parts)[::-2], [None, None]):
                for chosen in ([], patterns[:1], patterns[1:], patterns + patterns):
                    expected = {}
                    for version in versions:
                        expected.setdefault(tuple(rows_of(parts, version, chosen)), []).append(version)
                    kept = (list(versions), list(chosen))
                    with self.subTest(parts=parts, versions=versions, chosen=chosen):
                        self.assertEqual(groups(circuit, versions, chosen), list(expected.values()))
                        self.assertEqual((versions, chosen), kept)

    def test_what_is_returned_may_be_changed(self):
        circuit = Circuit(*samples.HALF)
        versions = samples.versions(samples.HALF)
        found = groups(circuit, versions, [(0, 1)])
        for row in found:
            row.clear()
        allowed(circuit, versions, [], []).clear()
        self.assertEqual(versions, samples.versions(samples.HALF))


class NextPattern(unittest.TestCase):
    def follows(self, parts, versions):
        circuit = Circuit(*parts)
        kept = list(versions)
        found = next_pattern(circuit, versions)
        with self.subTest(parts=parts, versions=versions):
            self.assertEqual(versions, kept)
            self.assertIs(type(found), tuple)
            word, shown = found
            alike = all(oracle.alike(parts, versions[0], version) for version in versions)
            if alike:
                self.assertEqual(word, "alike")
                self.assertIs(type(shown), list)
                self.assertEqual(len(shown), len(versions) - 1)
                for version, paper in zip(versions[1:], shown):
                    self.assertIsNone(check_paper(circuit, versions[0], version, paper))
            else:
                self.assertEqual(word, "pattern")
                self.assertIn(shown, oracle.patterns_of(parts))
                self.assertGreater(len({oracle.response(parts, version, shown) for version in versions}), 1)

    def test_one_version(self):
        for parts in CIRCUITS:
            for version in samples.versions(parts):
                self.assertEqual(next_pattern(Circuit(*parts), [version]), ("alike", []))

    def test_two_versions(self):
        for parts in CIRCUITS:
            versions = samples.versions(parts)
            for one, other in itertools.product(versions[::2], versions[::3]):
                self.follows(parts, [one, other])

    def test_versions_that_are_alike(self):
        for parts in CIRCUITS:
            found = {}
            for version in samples.versions(parts):
                found.setdefault(oracle.responses(parts, version), []).append(version)
            for members in found.values():
                self.follows(parts, members)
                self.follows(parts, members[::-1])
                self.follows(parts, members + members[:1])

    def test_versions_that_some_pattern_parts(self):
        for parts in CIRCUITS:
            versions = samples.versions(parts)
            for first in range(0, len(versions), 3):
                self.follows(parts, versions[first:first + 7])
                self.follows(parts, versions[first:])

    def test_the_last_one_alone_differs(self):
        for many in (1, 2, 3):
            self.follows(samples.HALF, [("pin", "c", 0, 0), ("stem", "c", 0)] * many + [None])
            self.follows(samples.HALF, [None] * many + [("stem", "c", 1)])


class Finding(unittest.TestCase):
    def test_to_the_end(self):
        for parts in CIRCUITS:
            circuit = Circuit(*parts)
            everything = samples.versions(parts)
            for versions in (everything, everything[::5], everything[:3], everything[-4:], [None, None]):
                for version in versions[::2]:
                    finder = Finder(circuit, versions)
                    left = list(versions)
                    told = 0
                    while True:
                        self.assertEqual(finder.versions(), left)
                        pattern = finder.ask()
                        self.assertEqual(finder.ask(), pattern)
                        if pattern is None:
                            break
                        rows = {other: oracle.response(parts, other, pattern) for other in left}
                        self.assertGreater(len(set(rows.values())), 1)
                        self.assertIsNone(finder.tell(pattern, rows[version]))
                        left = [other for other in left if rows[other] == rows[version]]
                        told += 1
                    with self.subTest(parts=parts, versions=versions, version=version):
                        self.assertIn(version, left)
                        self.assertLess(told, len(versions))
                        self.assertEqual(left, [other for other in versions if oracle.alike(parts, other, version)])

    def test_a_pattern_of_ones_own(self):
        circuit = Circuit(*samples.HALF)
        finder = Finder(circuit, [None, ("stem", "c", 0), ("stem", "s", 1)])
        finder.tell((0, 1), (1, 0))
        self.assertEqual(finder.versions(), [None, ("stem", "c", 0), ("stem", "s", 1)])
        finder.tell((1, 1), (0, 0))
        self.assertEqual(finder.versions(), [("stem", "c", 0)])
        self.assertIsNone(finder.ask())

    def test_responses_that_allow_none(self):
        circuit = Circuit(*samples.HALF)
        finder = Finder(circuit, [None, ("stem", "c", 0)])
        finder.tell((1, 0), (0, 1))
        self.assertEqual(finder.versions(), [])
        self.assertIsNone(finder.ask())
        finder.tell((1, 0), (0, 1))
        self.assertEqual(finder.versions(), [])
        self.assertEqual(Finder(circuit, []).versions(), [])
        self.assertIsNone(Finder(circuit, []).ask())

    def test_wrong_tells_change_nothing(self):
        circuit = Circuit(*samples.HALF)
        versions = [None, ("stem", "c", 0), ("stem", "s", 1)]
        finder = Finder(circuit, versions)
        asked = finder.ask()
        for pattern in NO_PATTERNS + samples.STRANGE:
            with self.subTest(pattern=pattern):
                self.assertRaises(BadPattern, finder.tell, pattern, (0, 1))
                self.assertRaises(BadPattern, finder.tell, pattern, None)
                self.assertEqual(finder.versions(), versions)
        for row in NO_ROWS:
            with self.subTest(row=row):
                self.assertRaises(BadPattern, finder.tell, (1, 1), row)
                self.assertEqual((finder.versions(), finder.ask()), (versions, asked))
        finder.tell((1, 1), (0, 1))
        self.assertEqual(finder.versions(), [None])

    def test_lists_of_its_own(self):
        circuit = Circuit(*samples.HALF)
        kept = copy.deepcopy(vars(circuit))
        versions = [None, ("stem", "c", 0), ("stem", "s", 1)]
        finder = Finder(circuit, versions)
        versions.append(("stem", "a", 0))
        self.assertEqual(finder.versions(), [None, ("stem", "c", 0), ("stem", "s", 1)])
        finder.versions().clear()
        self.assertEqual(finder.versions(), [None, ("stem", "c", 0), ("stem", "s", 1)])
        finder.tell((1, 1), (0, 0))
        finder.versions().append(7)
        self.assertEqual(finder.versions(), [("stem", "c", 0)])
        self.assertEqual(len(versions), 4)
        self.assertEqual(vars(circuit), kept)


if __name__ == "__main__":
    unittest.main()
