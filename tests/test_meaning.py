"""Tests of points 201 and 202: values and responses."""

import itertools
import unittest

import oracle
import samples
from probewright.circuits import KINDS, Circuit
from probewright.errors import BadBreak, BadPattern
from probewright.meaning import check_pattern, gate_value, parted, response, values

NO_VERSIONS = [
    ("stem", "u", 0), ("stem", "a", 2), ("stem", "a", True), ["stem", "a", 0], ("stem", "a"), ("pin", "s", 2, 0),
    ("pin", "a", 0, 0), ("short", "a", "s", "and"), ("short", "b", "a", "and"), True, False, 0, "", (), "stem",
]

NO_PATTERNS = [
    (), (0,), (0, 1, 0), [0, 1], (0, True), (False, 0), (0, 2), (-1, 0), (0, None), (None, None), ("0", "1"), "01",
    b"01", None, 0, 1, {0: 1, 1: 0}, ((0, 1),), (0, 1.0), ([0], 1), object(),
]


class GateValue(unittest.TestCase):
    def test_by_hand(self):
        expected = {
            "and": [0, 0, 0, 1], "or": [0, 1, 1, 1], "nand": [1, 1, 1, 0], "nor": [1, 0, 0, 0],
            "xor": [0, 1, 1, 0], "xnor": [1, 0, 0, 1],
        }
        for kind, found in expected.items():
            with self.subTest(kind=kind):
                self.assertEqual(
                    [gate_value(kind, [one, other]) for one in (0, 1) for other in (0, 1)], found)
        for kind, found in [("and", [0, 1]), ("or", [0, 1]), ("nand", [1, 0]), ("nor", [1, 0]), ("xor", [0, 1]),
                            ("xnor", [1, 0]), ("not", [1, 0]), ("buf", [0, 1])]:
            with self.subTest(kind=kind):
                self.assertEqual([gate_value(kind, [0]), gate_value(kind, [1])], found)
        self.assertEqual((gate_value("low", []), gate_value("high", [])), (0, 1))

    def test_every_number_of_pins(self):
        for kind in KINDS:
            fits = (0,) if kind in ("low", "high") else (1,) if kind in ("not", "buf") else (1, 2, 3, 4)
            for many in fits:
                for bits in itertools.product((0, 1), repeat=many):
                    with self.subTest(kind=kind, bits=bits):
                        given = list(bits)
                        found = gate_value(kind, given)
                        self.assertIs(type(found), int)
                        self.assertEqual(found, oracle.VALUE[kind](list(bits)))
                        self.assertEqual(given, list(bits))


class Examples(unittest.TestCase):
    def test_the_examples_of_the_document(self):
        circuit = Circuit(*samples.HALF)
        self.assertEqual(response(circuit, None, (1, 1)), (0, 1))
        self.assertEqual(
            values(circuit, ("pin", "s", 0, 0), (1, 1)), {"a": 1, "b": 1, "s": 1, "c": 1})

    def test_a_stuck_source(self):
        circuit = Circuit(*samples.HALF)
        self.assertEqual(values(circuit, ("stem", "a", 1), (0, 1)), {"a": 1, "b": 1, "s": 0, "c": 1})
        self.assertEqual(values(circuit, ("stem", "a", 0), (1, 1)), {"a": 0, "b": 1, "s": 1, "c": 0})

    def test_a_stuck_line_of_a_gate(self):
        gates = (("x", "and", ("a", "b")), ("y", "not", ("x",)), ("z", "buf", ("x",)))
        circuit = Circuit(("a", "b"), (), gates, ("y",))
        self.assertEqual(values(circuit, ("stem", "x", 1), (0, 0)), {"a": 0, "b": 0, "x": 1, "y": 0, "z": 1})
        self.assertEqual(values(circuit, ("stem", "y", 1), (1, 1)), {"a": 1, "b": 1, "x": 1, "y": 1, "z": 1})

    def test_a_stuck_pin_leaves_the_other_pins(self):
        gates = (("x", "and", ("a", "a")), ("y", "xor", ("a", "a", "a")), ("z", "buf", ("a",)))
        circuit = Circuit(("a",), (), gates, ("y",))
        self.assertEqual(values(circuit, ("pin", "x", 1, 0), (1,)), {"a": 1, "x": 0, "y": 1, "z": 1})
        self.assertEqual(values(circuit, ("pin", "x", 0, 1), (0,)), {"a": 0, "x": 0, "y": 0, "z": 0})
        self.assertEqual(values(circuit, ("pin", "y", 1, 1), (0,)), {"a": 0, "x": 0, "y": 1, "z": 0})
        self.assertEqual(values(circuit, ("pin", "y", 2, 0), (1,)), {"a": 1, "x": 1, "y": 0, "z": 1})

    def test_shorts_of_sources(self):
        circuit = Circuit(*samples.HALF)
        self.assertEqual(values(circuit, ("short", "a", "b", "and"), (1, 0)), {"a": 0, "b": 0, "s": 0, "c": 0})
        self.assertEqual(values(circuit, ("short", "a", "b", "or"), (1, 0)), {"a": 1, "b": 1, "s": 0, "c": 1})
        self.assertEqual(values(circuit, ("short", "a", "b", "and"), (1, 1)), {"a": 1, "b": 1, "s": 0, "c": 1})
        self.assertEqual(values(circuit, ("short", "a", "b", "or"), (0, 0)), {"a": 0, "b": 0, "s": 0, "c": 0})

    def test_shorts_of_lines_of_gates(self):
        # `w` stands far behind `x` and a gate that `x` drives.
        gates = (("x", "buf", ("a",)), ("y", "not", ("x",)), ("v", "buf", ("b",)), ("w", "buf", ("v",)),
                 ("z", "buf", ("w",)))
        circuit = Circuit(("a", "b"), (), gates, ("y", "z"))
        self.assertEqual(
            values(circuit, ("short", "w", "x", "and"), (1, 0)),
            {"a": 1, "b": 0, "x": 0, "y": 1, "v": 0, "w": 0, "z": 0})
        self.assertEqual(
            values(circuit, ("short", "w", "x", "or"), (1, 0)),
            {"a": 1, "b": 0, "x": 1, "y": 0, "v": 0, "w": 1, "z": 1})
        self.assertEqual(
            values(circuit, ("short", "w", "y", "or"), (0, 0)),
            {"a": 0, "b": 0, "x": 0, "y": 1, "v": 0, "w": 1, "z": 1})

    def test_a_register_takes_the_broken_value(self):
        circuit = Circuit(("a",), (("p", "z"), ("q", "p"), ("r", "a")), (("z", "xor", ("a", "p")),), ("z",))
        self.assertEqual(response(circuit, None, (1, 0, 0, 0)), (1, 1, 0, 1))
        self.assertEqual(response(circuit, ("stem", "p", 1), (1, 0, 0, 0)), (0, 0, 1, 1))
        self.assertEqual(response(circuit, ("stem", "a", 0), (1, 0, 0, 0)), (0, 0, 0, 0))
        self.assertEqual(response(circuit, ("stem", "z", 0), (1, 0, 0, 0)), (0, 0, 0, 1))
        self.assertEqual(response(circuit, ("pin", "z", 0, 0), (1, 0, 0, 0)), (0, 0, 0, 1))
        self.assertEqual(response(circuit, ("short", "a", "p", "or"), (1, 0, 0, 0)), (0, 0, 1, 1))
        self.assertEqual(response(circuit, ("short", "q", "z", "and"), (1, 0, 0, 0)), (0, 0, 0, 1))

    def test_outputs_that_are_sources_and_named_several_times(self):
        circuit = Circuit(*samples.NO_GATES)
        self.assertEqual(response(circuit, None, (0, 1, 1, 0)), (1, 1, 0, 0, 1))
        self.assertEqual(response(circuit, ("stem", "b", 0), (0, 1, 1, 0)), (0, 0, 0, 0, 1))

    def test_nothing(self):
        circuit = Circuit((), (), (), ())
        self.assertEqual(values(circuit, None, ()), {})
        self.assertEqual(response(circuit, None, ()), ())
        circuit = Circuit(*samples.ONLY_CONSTANTS)
        self.assertEqual(values(circuit, None, ()), {"h": 1, "l": 0, "n": 1})
        self.assertEqual(response(circuit, ("pin", "n", 1, 1), ()), (0, 0))


class AllVersions(unittest.TestCase):
    def compare(self, parts, patterns):
        circuit = Circuit(*parts)
        for version in samples.versions(parts):
            for pattern in patterns:
                with self.subTest(parts=parts, version=version, pattern=pattern):
                    found = values(circuit, version, pattern)
                    self.assertIs(type(found), dict)
                    self.assertEqual(found, oracle.values(parts, version, pattern))
                    found = response(circuit, version, pattern)
                    self.assertIs(type(found), tuple)
                    self.assertEqual(found, oracle.response(parts, version, pattern))

    def test_samples(self):
        for parts in samples.ALL:
            self.compare(parts, oracle.patterns_of(parts)[::1 if parts != samples.TEN else 9])

    def test_mixed_circuits(self):
        for start in range(20):
            parts = samples.mixed(start, 1 + start % 3, 5)
            self.compare(parts, oracle.patterns_of(parts))

    def test_parted(self):
        for parts in (samples.TWO_WAYS, samples.NARROW):
            circuit = Circuit(*parts)
            versions = samples.versions(parts)
            for pattern in oracle.patterns_of(parts):
                known = [oracle.response(parts, version, pattern) for version in versions]
                for one, first in zip(versions, known):
                    for other, second in zip(versions[::3], known[::3]):
                        found = parted(circuit, one, other, pattern)
                        self.assertIs(found, first != second)

    def test_the_largest_circuit(self):
        gates = [("g0", "not", ("a",))]
        gates.extend([(f"g{k}", "not", (f"g{k - 1}",)) for k in range(1, 399)])
        circuit = Circuit(("a",), (), gates[::-1], ("g398",))
        self.assertEqual(response(circuit, None, (0,)), (1,))
        self.assertEqual(response(circuit, ("stem", "g200", 0), (0,)), (0,))


class Refusals(unittest.TestCase):
    def setUp(self):
        self.circuit = Circuit(*samples.HALF)

    def test_versions(self):
        for version in NO_VERSIONS:
            with self.subTest(version=version):
                for ask in (values, response):
                    self.assertRaises(BadBreak, ask, self.circuit, version, (0, 1))
                self.assertRaises(BadBreak, parted, self.circuit, version, None, (0, 1))
                self.assertRaises(BadBreak, parted, self.circuit, None, version, (0, 1))

    def test_patterns(self):
        for pattern in NO_PATTERNS:
            with self.subTest(pattern=pattern):
                self.assertRaises(BadPattern, check_pattern, self.circuit, pattern)
                for ask in (values, response):
                    self.assertRaises(BadPattern, ask, self.circuit, None, pattern)
                    self.assertRaises(BadPattern, ask, self.circuit, ("stem", "a", 0), pattern)
                self.assertRaises(BadPattern, parted, self.circuit, None, ("stem", "a", 0), pattern)
                self.assertRaises(BadPattern, parted, self.circuit, None, None, pattern)

    def test_both_at_once(self):
        for version in NO_VERSIONS:
            for pattern in NO_PATTERNS:
                with self.subTest(version=version, pattern=pattern):
                    for ask in (values, response):
                        self.assertRaises(BadBreak, ask, self.circuit, version, pattern)
                    self.assertRaises(BadBreak, parted, self.circuit, version, None, pattern)
                    self.assertRaises(BadBreak, parted, self.circuit, None, version, pattern)

    def test_a_pattern_has_a_bit_for_each_source(self):
        for parts in samples.ALL:
            circuit = Circuit(*parts)
            many = len(circuit.sources())
            with self.subTest(parts=parts):
                self.assertIsNone(check_pattern(circuit, (0,) * many))
                self.assertIsNone(check_pattern(circuit, (1,) * many))
                self.assertRaises(BadPattern, check_pattern, circuit, (0,) * (many + 1))
                self.assertRaises(BadPattern, check_pattern, circuit, [0] * many)
                if many:
                    self.assertRaises(BadPattern, check_pattern, circuit, (0,) * (many - 1))

    def test_the_arguments_are_not_changed(self):
        before = self.circuit.parts()
        for version in samples.versions(samples.HALF):
            response(self.circuit, version, (1, 0))
        self.assertEqual(self.circuit.parts(), before)
        self.assertEqual(self.circuit.order, list(before[2]))
        self.assertEqual(sorted(self.circuit.gate_of), ["c", "s"])


if __name__ == "__main__":
    unittest.main()
