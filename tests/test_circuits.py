"""Tests of points 103 to 107: circuits."""

import itertools
import unittest
from unittest.mock import ANY

import samples
from oracle import leads, lines_of, sinks_of, sources_of
from probewright.circuits import KINDS, Circuit
from probewright.errors import BadCircuit


class Checked(unittest.TestCase):
    def refuses(self, reason, name, inputs=(), registers=(), gates=(), outputs=()):
        with self.subTest(parts=(inputs, registers, gates, outputs)):
            with self.assertRaises(BadCircuit) as caught:
                Circuit(inputs, registers, gates, outputs)
            self.assertEqual((caught.exception.reason, caught.exception.name), (reason, name))


class Parts(unittest.TestCase):
    def test_the_kinds(self):
        self.assertEqual(
            KINDS, ("and", "or", "nand", "nor", "xor", "xnor", "not", "buf", "low", "high"))

    def test_the_attributes_are_the_parts(self):
        for parts in samples.ALL:
            with self.subTest(parts=parts):
                circuit = Circuit(*parts)
                self.assertEqual(
                    (circuit.inputs, circuit.registers, circuit.gates, circuit.outputs), parts)
                self.assertEqual(circuit.parts(), parts)
                self.assertEqual(circuit.gate_of, {gate[0]: gate for gate in parts[2]})

    def test_lists_are_kept_as_tuples(self):
        for parts in samples.ALL:
            with self.subTest(parts=parts):
                given = [list(part) for part in parts]
                circuit = Circuit(*given)
                self.assertEqual(circuit.parts(), parts)
                for part in (circuit.inputs, circuit.registers, circuit.gates, circuit.outputs,
                             circuit.parts()):
                    self.assertIs(type(part), tuple)
                for part in given:
                    part.append("more")
                self.assertEqual(circuit.parts(), parts)

    def test_the_arguments_are_not_changed(self):
        given = [list(part) for part in samples.TEN]
        Circuit(*given)
        self.assertEqual(given, [list(part) for part in samples.TEN])

    def test_by_name(self):
        circuit = Circuit(outputs=("z",), gates=(("z", "buf", ("a",)),), registers=(), inputs=("a",))
        self.assertEqual(circuit.parts(), (("a",), (), (("z", "buf", ("a",)),), ("z",)))

    def test_two_circuits_do_not_share_anything(self):
        one = Circuit(*samples.HALF)
        other = Circuit(*samples.TEN)
        self.assertEqual(one.parts(), samples.HALF)
        self.assertEqual(other.parts(), samples.TEN)
        self.assertEqual(sorted(one.gate_of), ["c", "s"])


class Lines(unittest.TestCase):
    def test_lines_sources_and_sinks(self):
        for parts in samples.ALL:
            with self.subTest(parts=parts):
                circuit = Circuit(*parts)
                self.assertEqual(circuit.lines(), lines_of(parts))
                self.assertEqual(circuit.sources(), sources_of(parts))
                self.assertEqual(circuit.sinks(), sinks_of(parts))

    def test_by_hand(self):
        circuit = Circuit(
            ("b", "a"), (("q", "z"), ("p", "q")), (("z", "and", ("a", "p")), ("y", "low", ())),
            ("z", "b", "z"))
        self.assertEqual(circuit.lines(), ["b", "a", "q", "p", "z", "y"])
        self.assertEqual(circuit.sources(), ["b", "a", "q", "p"])
        self.assertEqual(circuit.sinks(), ["z", "b", "z", "z", "q"])

    def test_without_gates_and_without_anything(self):
        circuit = Circuit(*samples.NO_GATES)
        self.assertEqual(circuit.lines(), ["a", "b", "p", "q"])
        self.assertEqual(circuit.sources(), ["a", "b", "p", "q"])
        self.assertEqual(circuit.sinks(), ["b", "b", "q", "a", "p"])
        self.assertEqual(circuit.order, [])
        self.assertEqual(circuit.gate_of, {})
        circuit = Circuit((), (), (), ())
        self.assertEqual((circuit.lines(), circuit.sources(), circuit.sinks()), ([], [], []))

    def test_the_returned_values_may_be_changed(self):
        circuit = Circuit(*samples.TEN)
        for ask in (circuit.lines, circuit.sources, circuit.sinks):
            before = ask()
            self.assertIs(type(before), list)
            changed = ask()
            changed.clear()
            self.assertEqual(ask(), before)
            ask().append("more")
            self.assertEqual(ask(), before)
        before = circuit.above("nor3")
        circuit.above("nor3").clear()
        circuit.above("and2")["more"] = True
        self.assertEqual(circuit.above("nor3"), before)
        self.assertNotIn("more", circuit.above("nor3"))


class Order(unittest.TestCase):
    def holds(self, parts):
        circuit = Circuit(*parts)
        self.assertIs(type(circuit.order), list)
        self.assertEqual(sorted(circuit.order), sorted(parts[2]))
        known = set(sources_of(parts))
        for line, _, pins in circuit.order:
            self.assertLessEqual(set(pins), known)
            known.add(line)

    def test_samples(self):
        for parts in samples.ALL:
            with self.subTest(parts=parts):
                self.holds(parts)

    def test_every_order_of_the_gates(self):
        inputs, registers, gates, outputs = samples.WIDE
        for mixed in itertools.permutations(gates):
            with self.subTest(mixed=mixed):
                self.holds((inputs, registers, mixed, outputs))

    def test_a_long_chain(self):
        gates = [("g0", "not", ("a",))]
        gates.extend([(f"g{k}", "not", (f"g{k - 1}",)) for k in range(1, 399)])
        self.holds((("a",), (), tuple(gates), ("g398",)))
        self.holds((("a",), (), tuple(reversed(gates)), ("g398",)))
        self.holds((("a",), (), tuple(gates[1::2] + gates[::2]), ("g398",)))

    def test_mixed_circuits(self):
        for start in range(40):
            with self.subTest(start=start):
                self.holds(samples.mixed(start, 1 + start % 6, start % 20))


class Above(unittest.TestCase):
    def test_by_hand(self):
        circuit = Circuit(*samples.WIDE)
        self.assertEqual(sorted(circuit.above("a")), ["a"])
        self.assertEqual(sorted(circuit.above("x")), ["a", "b", "x"])
        self.assertEqual(sorted(circuit.above("z")), ["a", "b", "c", "k", "x", "y", "z"])
        self.assertEqual(sorted(circuit.above("w")), ["a", "b", "c", "w", "x"])

    def test_a_line_does_not_lead_through_a_register(self):
        circuit = Circuit(*samples.WIDE)
        self.assertEqual(sorted(circuit.above("k")), ["k"])
        circuit = Circuit(*samples.NO_GATES)
        self.assertEqual(sorted(circuit.above("q")), ["q"])
        self.assertEqual(sorted(circuit.above("p")), ["p"])
        circuit = Circuit(("a",), (("p", "y"),), (("y", "and", ("a", "p")), ("z", "not", ("p",))), ("z",))
        self.assertEqual(sorted(circuit.above("y")), ["a", "p", "y"])
        self.assertEqual(sorted(circuit.above("z")), ["p", "z"])

    def test_a_gate_without_pins(self):
        circuit = Circuit(*samples.ONLY_CONSTANTS)
        self.assertEqual(sorted(circuit.above("h")), ["h"])
        self.assertEqual(sorted(circuit.above("n")), ["h", "l", "n"])

    def test_every_line(self):
        cases = list(samples.ALL) + [samples.mixed(start, 3, 8) for start in range(12)]
        for parts in cases:
            circuit = Circuit(*parts)
            for line in lines_of(parts):
                with self.subTest(parts=parts, line=line):
                    expected = {one for one in lines_of(parts) if leads(parts, one, line)}
                    found = circuit.above(line)
                    self.assertIs(type(found), dict)
                    self.assertEqual(set(found), expected | {line})

    def test_many_ways_to_a_line(self):
        gates = [("g0", "and", ("a", "a", "a", "a"))]
        gates.extend([(f"g{k}", "xor", (f"g{k - 1}",) * 4) for k in range(1, 200)])
        circuit = Circuit(("a",), (), gates, ("g199",))
        self.assertEqual(len(circuit.above("g199")), 201)


class Kinds(Checked):
    def test_the_number_of_pins(self):
        several = ("and", "or", "nand", "nor", "xor", "xnor")
        for kind in KINDS:
            fits = (1, 2, 3, 4) if kind in several else (1,) if kind in ("not", "buf") else (0,)
            for many in range(7):
                gates = (("z", kind, ("a",) * many),)
                if many in fits:
                    with self.subTest(kind=kind, many=many):
                        self.assertEqual(Circuit(("a",), (), gates, ()).gates, gates)
                else:
                    self.refuses("form", "", ("a",), (), gates, ())

    def test_no_kinds(self):
        wrong = ["AND", "And", "", "inv", "an", "andd", "and ", "nxor", "mux", "one", "stem", b"and"]
        for kind in wrong + samples.STRANGE:
            for pins in ((), ("a",), ("a", "a")):
                self.refuses("form", "", ("a",), (), (("z", kind, pins),), ())


class Form(Checked):
    no_names = [ANY, None, True, False, 0, 1, 2.5, "", "A", "0a", "_a", "a b", "a-b", "a\n", " a",
                "abcdefghijklm", "\u00e4", b"a", ("a",), ["a"], {"a": 1}, {"a"}, object()]

    def test_inputs_and_outputs(self):
        for value in self.no_names:
            self.refuses("form", "", (value,))
            self.refuses("form", "", ("a", value))
            self.refuses("form", "", [value, "a"])
            self.refuses("form", "", ("a",), outputs=(value,))
            self.refuses("form", "", ("a",), outputs=["a", value, "a"])

    def test_names_in_registers(self):
        for value in self.no_names:
            self.refuses("form", "", ("a",), ((value, "a"),))
            self.refuses("form", "", ("a",), (("p", value),))
            self.refuses("form", "", ("a",), (("p", "a"), (value, value)))

    def test_registers_of_other_forms(self):
        wrong = [["p", "a"], ("p",), ("p", "a", "a"), "pa", ("p", ["a"]), {"p": "a"}, {"p": 1, "a": 2}]
        for value in wrong + samples.STRANGE:
            self.refuses("form", "", ("a",), (value,))
            self.refuses("form", "", ("a",), (("q", "a"), value))

    def test_names_in_gates(self):
        for value in self.no_names:
            self.refuses("form", "", ("a",), (), ((value, "not", ("a",)),))
            self.refuses("form", "", ("a",), (), (("z", "not", (value,)),))
            self.refuses("form", "", ("a",), (), (("z", "and", ("a", "a", value)),))
            self.refuses("form", "", ("a",), (), (("z", "and", (value, "a")),))

    def test_gates_of_other_forms(self):
        wrong = [
            ["z", "not", ("a",)], ("z", "not"), ("z",), ("z", "not", ("a",), ()), ("z", "low"),
            ("z", "not", "a"), ("not", ("a",)), ("z", "not", ["a"]), ("z", "low", []), ("z", "low", None),
            ("z", "low", ""), ("z", "and", {"a": 1}), ("z", "not", {"a"}), ("z", "and", "ab"),
            ("z", "not", None), ("z", "not", 1), ("z", ("a",), "not"), "abc",
        ]
        for value in wrong + samples.STRANGE:
            self.refuses("form", "", ("a",), (), (value,))
            self.refuses("form", "", ("a",), (), (("y", "not", ("a",)), value))

    def test_the_edges_of_names(self):
        parts = (("abcdefghijkl",), (("p", "abcdefghijkl"),), (("z9_", "not", ("p",)),), ("z9_",))
        self.assertEqual(Circuit(*parts).parts(), parts)


class Twice(Checked):
    def test_each_kind_of_line(self):
        self.refuses("twice", "a", ("a", "a"))
        self.refuses("twice", "a", ("a",), (("a", "a"),))
        self.refuses("twice", "p", ("a",), (("p", "a"), ("p", "a")))
        self.refuses("twice", "a", ("a",), (), (("a", "low", ()),))
        self.refuses("twice", "p", (), (("p", "p"),), (("p", "high", ()),))
        self.refuses("twice", "z", ("a",), (), (("z", "low", ()), ("z", "low", ())))

    def test_the_first_one_that_has_been_driven_before(self):
        self.refuses("twice", "b", ("a", "b", "b", "a"))
        self.refuses("twice", "a", ("a", "b", "a", "b"))
        self.refuses("twice", "b", ("a", "b"), (("b", "a"), ("a", "a")))
        self.refuses("twice", "b", ("a", "b"), (("b", "a"),), (("a", "low", ()),))
        gates = (("z", "low", ()), ("y", "low", ()), ("y", "low", ()), ("z", "low", ()), ("a", "low", ()))
        self.refuses("twice", "y", ("a",), (), gates)
        self.refuses("twice", "c", ("a", "b", "c", "c", "c", "b"))

    def test_an_output_may_be_named_several_times(self):
        circuit = Circuit(("a",), (("p", "a"), ("q", "a")), (), ("a", "a", "p", "a"))
        self.assertEqual(circuit.outputs, ("a", "a", "p", "a"))


class Unknown(Checked):
    def test_each_alone(self):
        self.refuses("unknown", "b", ("a",), (), (("z", "not", ("b",)),))
        self.refuses("unknown", "b", ("a",), (("p", "b"),))
        self.refuses("unknown", "b", ("a",), (), (), ("b",))
        self.refuses("unknown", "b", (), (), (), ("b",))

    def test_the_first_one(self):
        gates = (("z", "and", ("a", "u1", "u2")), ("y", "or", ("u3",)))
        self.refuses("unknown", "u1", ("a",), (("p", "u4"),), gates, ("u5",))
        gates = (("z", "and", ("a", "y", "a")), ("y", "or", ("a", "a", "u3")))
        self.refuses("unknown", "u3", ("a",), (("p", "u4"),), gates, ("u5",))
        self.refuses("unknown", "u4", ("a",), (("q", "a"), ("p", "u4"), ("r", "u6")), (), ("u5",))
        self.refuses("unknown", "u5", ("a",), (("q", "a"),), (), ("a", "u5", "u6"))

    def test_the_order_of_the_gates_and_not_of_the_lines_above(self):
        gates = (("z", "buf", ("y",)), ("y", "buf", ("x",)), ("x", "buf", ("u1",)), ("w", "buf", ("u2",)))
        self.refuses("unknown", "u1", ("a",), (), gates)

    def test_lines_that_come_later_are_known(self):
        parts = ((), (("p", "z"),), (("z", "not", ("y",)), ("y", "buf", ("p",))), ("z",))
        self.assertEqual(Circuit(*parts).parts(), parts)

    def test_the_name_of_the_circuit_or_of_a_kind_is_no_line(self):
        self.refuses("unknown", "and", ("a",), (), (("z", "and", ("and", "a")),))
        parts = (("and", "not"), (), (("buf", "or", ("and", "not")),), ("buf",))
        self.assertEqual(Circuit(*parts).parts(), parts)


def many_inputs(count):
    return tuple(f"i{k}" for k in range(count))


def many_gates(count):
    return tuple((f"g{k}", "low", ()) for k in range(count))


class Size(Checked):
    def test_lines(self):
        self.assertEqual(len(Circuit((), (), many_gates(400), ()).lines()), 400)
        self.refuses("size", "", (), (), many_gates(401))
        circuit = Circuit(many_inputs(30), (("p", "i0"), ("q", "g0")), many_gates(368), ("g367",))
        self.assertEqual(len(circuit.lines()), 400)
        self.refuses("size", "", many_inputs(30), (("p", "i0"), ("q", "g0")), many_gates(369))
        self.refuses("size", "", (), (), many_gates(1000))

    def test_sources(self):
        self.assertEqual(len(Circuit(many_inputs(40), (), (), ()).sources()), 40)
        self.refuses("size", "", many_inputs(41))
        registers = tuple((f"r{k}", "i0") for k in range(39))
        self.assertEqual(len(Circuit(("i0",), registers, (), ()).sources()), 40)
        self.refuses("size", "", ("i0", "i1"), registers)
        registers = tuple((f"r{k}", "r0") for k in range(41))
        self.refuses("size", "", (), registers)

    def test_outputs_are_not_limited(self):
        circuit = Circuit(("a",), (), (), ("a",) * 500)
        self.assertEqual(len(circuit.sinks()), 500)


class Loops(Checked):
    def test_a_gate_that_leads_to_itself(self):
        self.refuses("loop", "z", ("a",), (), (("z", "and", ("a", "z")),))
        self.refuses("loop", "z", (), (), (("z", "not", ("z",)),))

    def test_on_a_loop_or_led_to_by_one(self):
        loop = [("x", "not", ("y",)), ("y", "and", ("x", "a"))]
        self.refuses("loop", "x", ("a",), (), loop)
        self.refuses("loop", "y", ("a",), (), loop[::-1])
        led_to = ("z", "buf", ("y",))
        self.refuses("loop", "z", ("a",), (), [led_to] + loop)
        self.refuses("loop", "x", ("a",), (), loop + [led_to])
        further = ("w", "or", ("a", "z"))
        self.refuses("loop", "w", ("a",), (), [further, led_to] + loop)
        self.refuses("loop", "y", ("a",), (), [loop[1], further, led_to, loop[0]])

    def test_gates_ahead_of_a_loop_do_not_count(self):
        gates = [("n", "not", ("a",)), ("m", "not", ("n",)), ("x", "or", ("m", "y")), ("y", "buf", ("x",))]
        self.refuses("loop", "x", ("a",), (), gates)
        self.refuses("loop", "y", ("a",), (), gates[::-1])
        self.refuses("loop", "x", ("a",), (), [gates[1], gates[2], gates[0], gates[3]])

    def test_two_loops(self):
        gates = [("n", "not", ("a",)), ("q", "not", ("q",)), ("p", "not", ("p",)), ("r", "and", ("p", "q"))]
        self.refuses("loop", "q", ("a",), (), gates)
        self.refuses("loop", "r", ("a",), (), gates[::-1])
        self.refuses("loop", "p", ("a",), (), [gates[0], gates[2], gates[1]])

    def test_a_loop_through_a_register_is_none(self):
        parts = ((), (("p", "z"),), (("z", "not", ("p",)),), ("z",))
        self.assertEqual(Circuit(*parts).parts(), parts)

    def test_a_long_loop(self):
        gates = [(f"g{k}", "not", (f"g{(k + 1) % 400}",)) for k in range(400)]
        self.refuses("loop", "g0", (), (), gates)


class TheFirstCheckCounts(Checked):
    def test_form_ahead_of_all_others(self):
        self.refuses("form", "", ("a", "a", None))
        self.refuses("form", "", ("a", "a"), (), (), (None,))
        self.refuses("form", "", ("a",), (("p", "u"), ["q", "a"]))
        self.refuses("form", "", many_inputs(41), (), (("z", "not", ()),))
        self.refuses("form", "", (), (), (("z", "not", ("z",)), ("y", "nop", ("z",))))

    def test_twice_ahead_of_unknown_size_and_loop(self):
        self.refuses("twice", "a", ("a", "a"), (), (("z", "not", ("u",)),), ("v",))
        self.refuses("twice", "i3", many_inputs(41) + ("i3",))
        self.refuses("twice", "g0", (), (), many_gates(401) + (("g0", "low", ()),))
        self.refuses("twice", "z", (), (), (("z", "not", ("z",)), ("z", "low", ())))

    def test_unknown_ahead_of_size_and_loop(self):
        self.refuses("unknown", "u", many_inputs(41), (), (), ("u",))
        self.refuses("unknown", "u", (), (), many_gates(401) + (("z", "buf", ("u",)),))
        self.refuses("unknown", "u", (), (), (("z", "not", ("z",)),), ("u",))

    def test_size_ahead_of_loop(self):
        self.refuses("size", "", many_inputs(41), (), (("z", "not", ("z",)),))
        gates = tuple((f"g{k}", "not", (f"g{(k + 1) % 401}",)) for k in range(401))
        self.refuses("size", "", (), (), gates)


if __name__ == "__main__":
    unittest.main()
