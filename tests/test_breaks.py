"""Tests of point 200: breaks and versions."""

import unittest
from unittest.mock import ANY

import samples
from oracle import lines_of
from probewright.breaks import check_version, is_break, shorts, stuck_breaks
from probewright.circuits import Circuit
from probewright.errors import BadBreak

PARTS = (
    ("a", "b", "c"),
    (("k", "y"),),
    (
        ("x", "and", ("a", "b")),
        ("y", "nor", ("x", "c", "x")),
        ("l", "low", ()),
        ("n", "not", ("k",)),
    ),
    ("y", "n"),
)


class Checked(unittest.TestCase):
    def setUp(self):
        self.circuit = Circuit(*PARTS)

    def holds(self, value, circuit=None):
        circuit = circuit or self.circuit
        with self.subTest(value=value):
            self.assertIs(is_break(circuit, value), True)
            self.assertIsNone(check_version(circuit, value))

    def fails(self, value, circuit=None):
        circuit = circuit or self.circuit
        with self.subTest(value=value):
            self.assertIs(is_break(circuit, value), False)
            with self.assertRaises(BadBreak):
                check_version(circuit, value)


class Versions(Checked):
    def test_none_is_a_version_but_no_break(self):
        self.assertIs(is_break(self.circuit, None), False)
        self.assertIsNone(check_version(self.circuit, None))

    def test_all_breaks(self):
        for parts in samples.ALL:
            circuit = Circuit(*parts)
            for version in samples.versions(parts)[1:]:
                self.holds(version, circuit)

    def test_other_values(self):
        for value in samples.STRANGE:
            if value is not None:
                self.fails(value)

    def test_nothing_is_broken_where_nothing_is(self):
        circuit = Circuit((), (), (), ())
        for value in [("stem", "a", 0), ("pin", "a", 0, 0), ("short", "a", "b", "and")]:
            self.fails(value, circuit)


class Stems(Checked):
    def test_every_line(self):
        for line in ("a", "b", "c", "k", "x", "y", "l", "n"):
            self.holds(("stem", line, 0))
            self.holds(("stem", line, 1))

    def test_values_that_are_no_bits(self):
        for value in [ANY, 2, -1, True, False, None, "0", "1", 0.0, 1.0, (), [0], object()]:
            self.fails(("stem", "a", value))

    def test_no_lines(self):
        for line in [ANY, "d", "", "A", "a ", "stem", None, True, 0, ("a",), ["a"], {"a": 1}, {"a"}, b"a", object()]:
            self.fails(("stem", line, 0))

    def test_forms(self):
        for value in [["stem", "a", 0], ("stem", "a"), ("stem",), ("stem", "a", 0, 0), ("stem", "a", 0, None),
                      ("a", 0), ("stem", 0, "a"), ("a", "stem", 0), "stem a 0", ("stems", "a", 0), ("STEM", "a", 0),
                      (ANY, "a", 0), ("pin", "a", 0), ("short", "a", 0),
                      (None, "a", 0), (["stem"], "a", 0), ("", "a", 0)]:
            self.fails(value)


class Pins(Checked):
    def test_every_pin(self):
        for line, many in [("x", 2), ("y", 3), ("n", 1)]:
            for index in range(many):
                self.holds(("pin", line, index, 0))
                self.holds(("pin", line, index, 1))

    def test_an_index_that_the_gate_does_not_have(self):
        for line, many in [("x", 2), ("y", 3), ("n", 1), ("l", 0)]:
            for index in [many, many + 1, -1, -many, 100, 10 ** 30]:
                self.fails(("pin", line, index, 0))

    def test_no_index(self):
        for index in [ANY, True, False, None, "0", 0.0, 1.0, (), [0], object()]:
            self.fails(("pin", "y", index, 0))

    def test_values_that_are_no_bits(self):
        for value in [ANY, 2, -1, True, False, None, "0", 0.0, (), [0], object()]:
            self.fails(("pin", "x", 0, value))

    def test_no_gates(self):
        for line in [ANY, "a", "k", "d", "", None, 0, True, ("x",), ["x"], {"x": 1}, {"x"}, b"x",
                     ("x", "and", ("a", "b")), object()]:
            self.fails(("pin", line, 0, 0))

    def test_forms(self):
        for value in [["pin", "x", 0, 0], ("pin", "x", 0), ("pin", "x"), ("pin",), ("pin", "x", 0, 0, 0),
                      ("stem", "x", 0, 0), ("x", 0, 0), ("pin", 0, "x", 0), ("PIN", "x", 0, 0),
                      (ANY, "x", 0, 0), (["pin"], "x", 0, 0), (None, "x", 0, 0), ("pin", "x", "a", 0)]:
            self.fails(value)


class Shorts(Checked):
    def test_by_hand(self):
        for one, other in [("a", "b"), ("a", "c"), ("a", "k"), ("c", "x"), ("k", "x"), ("k", "y"), ("l", "x"),
                           ("a", "n"), ("n", "y"), ("b", "l"), ("l", "n")]:
            self.holds(("short", one, other, "and"))
            self.holds(("short", one, other, "or"))

    def test_the_wrong_order(self):
        for one, other in [("a", "b"), ("a", "c"), ("k", "y"), ("l", "x")]:
            self.fails(("short", other, one, "and"))
            self.fails(("short", other, one, "or"))

    def test_a_line_with_itself(self):
        for line in lines_of(PARTS):
            self.fails(("short", line, line, "and"))
            self.fails(("short", line, line, "or"))

    def test_a_line_that_leads_to_the_other_one(self):
        for one, other in [("a", "x"), ("b", "x"), ("a", "y"), ("b", "y"), ("c", "y"), ("x", "y"), ("k", "n")]:
            self.fails(("short", one, other, "and"))
            self.fails(("short", other, one, "and"))
        circuit = Circuit(("z",), (), (("m", "not", ("z",)), ("b", "not", ("m",))), ("b",))
        for one, other in [("m", "z"), ("b", "m"), ("b", "z")]:
            self.fails(("short", one, other, "or"), circuit)
            self.fails(("short", other, one, "or"), circuit)

    def test_a_register_does_not_lead_on(self):
        self.holds(("short", "k", "y", "and"))
        self.holds(("short", "n", "y", "or"))

    def test_another_kind(self):
        for kind in [ANY, "xor", "nand", "nor", "buf", "", "AND", "an", 0, 1, None, True, ("and",), ["and"], b"and",
                     object()]:
            self.fails(("short", "a", "b", kind))

    def test_unknown_lines(self):
        for line in [ANY, "d", "zz", "", "A", None, 0, True, ("b",), ["b"], {"b": 1}, b"b", object()]:
            self.fails(("short", "a", line, "and"))
            self.fails(("short", line, "x", "and"))
            self.fails(("short", line, line, "and"))

    def test_forms(self):
        for value in [["short", "a", "b", "and"], ("short", "a", "b"), ("short", "a", "b", "and", "and"),
                      ("short",), ("a", "b", "and"), ("short", ("a", "b"), "and"), ("shorts", "a", "b", "and"),
                      ("pin", "a", "b", "and"), ("stem", "a", "b", "and"), (None, "a", "b", "and"),
                      (ANY, "a", "b", "and"), (["short"], "a", "b", "and"), ("short", "a", "and", "b")]:
            self.fails(value)


class Lists(Checked):
    def test_stuck_breaks_by_hand(self):
        circuit = Circuit(
            ("b", "a"), (("p", "z"),), (("z", "and", ("a", "y", "a")), ("l", "low", ()), ("y", "not", ("p",))), ("z",))
        expected = []
        for line in ("b", "a", "p", "z", "l", "y"):
            expected.extend([("stem", line, 0), ("stem", line, 1)])
        expected.extend([
            ("pin", "z", 0, 0), ("pin", "z", 0, 1), ("pin", "z", 1, 0), ("pin", "z", 1, 1),
            ("pin", "z", 2, 0), ("pin", "z", 2, 1), ("pin", "y", 0, 0), ("pin", "y", 0, 1)])
        self.assertEqual(stuck_breaks(circuit), expected)

    def test_shorts_by_hand(self):
        circuit = Circuit(("c", "a"), (("b", "z"),), (("z", "and", ("a", "b")),), ("z",))
        pairs = [("a", "b"), ("a", "c"), ("b", "c"), ("c", "z")]
        expected = [("short", one, other, kind) for one, other in pairs for kind in ("and", "or")]
        self.assertEqual(shorts(circuit), expected)

    def test_the_order_of_strings(self):
        circuit = Circuit(("b", "a_", "a1", "a", "ab", "a10", "a2"), (), (), ())
        found = shorts(circuit)
        self.assertEqual(found, sorted(found))
        self.assertEqual(len(found), 42)
        self.assertEqual(found[:3], [
            ("short", "a", "a1", "and"), ("short", "a", "a1", "or"), ("short", "a", "a10", "and")])
        self.assertEqual(found[-1], ("short", "ab", "b", "or"))

    def test_samples(self):
        cases = list(samples.ALL) + [samples.mixed(start, 3, 7) for start in range(12)]
        for parts in cases:
            with self.subTest(parts=parts):
                circuit = Circuit(*parts)
                self.assertEqual(stuck_breaks(circuit), samples.stems(parts) + samples.pins(parts))
                self.assertEqual(shorts(circuit), samples.shorts(parts))
                for value in stuck_breaks(circuit) + shorts(circuit):
                    self.assertTrue(is_break(circuit, value))

    def test_nothing_and_no_gates(self):
        circuit = Circuit((), (), (), ())
        self.assertEqual((stuck_breaks(circuit), shorts(circuit)), ([], []))
        circuit = Circuit(("b",), (("a", "b"),), (), ("a",))
        self.assertEqual(
            stuck_breaks(circuit), [("stem", "b", 0), ("stem", "b", 1), ("stem", "a", 0), ("stem", "a", 1)])
        self.assertEqual(shorts(circuit), [("short", "a", "b", "and"), ("short", "a", "b", "or")])

    def test_the_returned_lists_are_new(self):
        for ask in (stuck_breaks, shorts):
            before = ask(self.circuit)
            ask(self.circuit).clear()
            self.assertEqual(ask(self.circuit), before)

    def test_the_largest_circuits(self):
        gates = [("g0", "not", ("a",))]
        gates.extend([(f"g{k}", "not", (f"g{k - 1}",)) for k in range(1, 399)])
        circuit = Circuit(("a",), (), gates[::-1], ("g398",))
        self.assertEqual(shorts(circuit), [])
        self.assertEqual(len(stuck_breaks(circuit)), 800 + 798)
        self.fails(("short", "a", "g398", "and"), circuit)
        self.fails(("short", "g17", "g301", "or"), circuit)
        circuit = Circuit((), (), [(f"g{k}", "low", ()) for k in range(400)], ())
        self.assertEqual(len(shorts(circuit)), 400 * 399)


if __name__ == "__main__":
    unittest.main()
