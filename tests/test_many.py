"""Tests of point 203: many patterns at once."""

import unittest

import oracle
import samples
from probewright.circuits import Circuit
from probewright.errors import BadBreak, BadPattern
from probewright.many import parting, responses, words_of
from probewright.meaning import parted, response, values
from test_meaning import NO_PATTERNS, NO_VERSIONS


class Examples(unittest.TestCase):
    def setUp(self):
        self.circuit = Circuit(*samples.HALF)
        self.patterns = [(0, 0), (1, 1), (1, 0)]

    def test_the_examples_of_the_document(self):
        self.assertEqual(words_of(self.circuit, None, self.patterns)["s"], 4)
        self.assertEqual(parting(self.circuit, None, ("stem", "c", 0), self.patterns), [1])

    def test_by_hand(self):
        self.assertEqual(words_of(self.circuit, None, self.patterns), {"a": 6, "b": 2, "s": 4, "c": 2})
        self.assertEqual(
            words_of(self.circuit, ("stem", "a", 1), self.patterns), {"a": 7, "b": 2, "s": 5, "c": 2})
        self.assertEqual(
            words_of(self.circuit, ("pin", "c", 1, 1), self.patterns), {"a": 6, "b": 2, "s": 4, "c": 6})
        self.assertEqual(
            words_of(self.circuit, ("short", "a", "b", "and"), self.patterns), {"a": 2, "b": 2, "s": 0, "c": 2})
        self.assertEqual(
            words_of(self.circuit, ("short", "c", "s", "or"), self.patterns), {"a": 6, "b": 2, "s": 6, "c": 6})
        self.assertEqual(responses(self.circuit, None, self.patterns), [(0, 0), (0, 1), (1, 0)])
        self.assertEqual(parting(self.circuit, ("stem", "s", 1), None, self.patterns), [0, 1])
        self.assertEqual(parting(self.circuit, None, None, self.patterns), [])

    def test_equal_patterns(self):
        patterns = [(1, 0), (1, 0), (0, 0), (1, 0)]
        self.assertEqual(words_of(self.circuit, None, patterns), {"a": 11, "b": 0, "s": 11, "c": 0})
        self.assertEqual(responses(self.circuit, None, patterns), [(1, 0), (1, 0), (0, 0), (1, 0)])
        self.assertEqual(parting(self.circuit, None, ("stem", "a", 0), patterns), [0, 1, 3])

    def test_no_pattern(self):
        for parts in samples.ALL:
            circuit = Circuit(*parts)
            for version in samples.versions(parts):
                with self.subTest(parts=parts, version=version):
                    self.assertEqual(
                        words_of(circuit, version, []), {line: 0 for line in circuit.lines()})
                    self.assertEqual(responses(circuit, version, []), [])
                    self.assertEqual(parting(circuit, None, version, []), [])

    def test_no_lines_and_no_sources(self):
        circuit = Circuit((), (), (), ())
        self.assertEqual(words_of(circuit, None, [(), ()]), {})
        self.assertEqual(responses(circuit, None, [(), ()]), [(), ()])
        self.assertEqual(parting(circuit, None, None, [(), ()]), [])
        circuit = Circuit(*samples.ONLY_CONSTANTS)
        self.assertEqual(words_of(circuit, None, [(), (), ()]), {"h": 7, "l": 0, "n": 7})
        self.assertEqual(parting(circuit, None, ("stem", "h", 0), [(), (), ()]), [])
        self.assertEqual(parting(circuit, None, ("stem", "l", 1), [(), (), ()]), [0, 1, 2])


class AllVersions(unittest.TestCase):
    def compare(self, parts, patterns):
        circuit = Circuit(*parts)
        for version in samples.versions(parts):
            with self.subTest(parts=parts, version=version, patterns=patterns):
                expected = {line: 0 for line in circuit.lines()}
                for k, pattern in enumerate(patterns):
                    for line, bit in values(circuit, version, pattern).items():
                        expected[line] += bit << k
                found = words_of(circuit, version, patterns)
                self.assertIs(type(found), dict)
                self.assertEqual(found, expected)
                self.assertEqual(
                    responses(circuit, version, patterns),
                    [response(circuit, version, pattern) for pattern in patterns])

    def lists_of(self, parts):
        patterns = oracle.patterns_of(parts)
        return [patterns[:1], patterns[-1:], patterns, patterns[::-1], patterns[1::2] + patterns[::3] + patterns[:2]]

    def test_samples(self):
        for parts in samples.SMALL + (samples.NO_GATES,):
            for patterns in self.lists_of(parts):
                self.compare(parts, patterns)
        patterns = oracle.patterns_of(samples.TEN)
        self.compare(samples.TEN, patterns[::7] + patterns[5:8] + patterns[5:8])

    def test_mixed_circuits(self):
        for start in range(20, 40):
            parts = samples.mixed(start, 1 + start % 4, 6)
            patterns = oracle.patterns_of(parts)
            self.compare(parts, patterns + patterns[:3])

    def test_parting(self):
        for parts in (samples.TWO_WAYS, samples.NARROW, samples.HALF):
            circuit = Circuit(*parts)
            patterns = oracle.patterns_of(parts) + oracle.patterns_of(parts)[::-1]
            for one in samples.versions(parts):
                for other in samples.versions(parts)[::4]:
                    with self.subTest(parts=parts, one=one, other=other):
                        self.assertEqual(
                            parting(circuit, one, other, patterns),
                            [k for k, pattern in enumerate(patterns) if parted(circuit, one, other, pattern)])

    def test_a_thousand_patterns(self):
        circuit = Circuit(*samples.HALF)
        patterns = [(k % 2, k // 2 % 2) for k in range(1000)]
        self.assertEqual(
            parting(circuit, None, ("stem", "c", 0), patterns), [k for k in range(1000) if k % 4 == 3])
        self.assertEqual(words_of(circuit, ("stem", "s", 1), patterns)["s"], 2 ** 1000 - 1)


class Refusals(unittest.TestCase):
    def setUp(self):
        self.circuit = Circuit(*samples.HALF)

    def refuses(self, error, version, patterns):
        with self.subTest(version=version, patterns=patterns):
            self.assertRaises(error, words_of, self.circuit, version, patterns)
            self.assertRaises(error, responses, self.circuit, version, patterns)
            self.assertRaises(error, parting, self.circuit, version, None, patterns)
            self.assertRaises(error, parting, self.circuit, None, version, patterns)

    def test_versions(self):
        for version in NO_VERSIONS:
            self.refuses(BadBreak, version, [])
            self.refuses(BadBreak, version, [(0, 1), (1, 1)])

    def test_patterns(self):
        for pattern in NO_PATTERNS:
            for version in (None, ("stem", "a", 0), ("short", "a", "b", "or")):
                self.refuses(BadPattern, version, [pattern])
                self.refuses(BadPattern, version, [(0, 1), (1, 1), pattern])
                self.refuses(BadPattern, version, [pattern, (0, 1)])

    def test_both_at_once(self):
        for version in NO_VERSIONS:
            for pattern in NO_PATTERNS:
                self.refuses(BadBreak, version, [(1, 0), pattern])

    def test_the_arguments_are_not_changed(self):
        patterns = [(0, 1), (1, 1)]
        for version in samples.versions(samples.HALF):
            words_of(self.circuit, version, patterns)
            responses(self.circuit, version, patterns)
            parting(self.circuit, None, version, patterns)
        self.assertEqual(patterns, [(0, 1), (1, 1)])
        self.assertEqual(self.circuit.parts(), samples.HALF)


if __name__ == "__main__":
    unittest.main()
