"""Tests of point 305: the generator."""

import copy
import itertools
import unittest

import oracle
import samples
from probewright.circuits import Circuit
from probewright.errors import BadBreak, BadPaper
from probewright.generator import answer
from probewright.many import Trial
from probewright.papers import check_paper, size_of
from probewright.netlists import parse
from test_meaning import NO_VERSIONS
from test_papers import PARITY


class Answers(unittest.TestCase):
    def follows(self, parts, one, other, circuit=None):
        """Hold the answer for two versions against all patterns, and return it."""
        circuit = circuit or Circuit(*parts)
        with self.subTest(parts=parts, one=one, other=other):
            found = answer(circuit, one, other)
            self.assertIs(type(found), tuple)
            self.assertEqual(len(found), 2)
            apart = oracle.parting(parts, one, other)
            if found[0] == "parted":
                self.assertIs(type(found[1]), tuple)
                self.assertEqual(len(found[1]), len(circuit.sources()))
                self.assertTrue(all(item is None or type(item) is int for item in found[1]))
                filling = oracle.filling(found[1])
                self.assertTrue(set(filling) <= set(apart))
            else:
                self.assertEqual(found[0], "alike")
                self.assertEqual(apart, [])
                self.assertIsNone(check_paper(circuit, one, other, found[1]))
            return found


class Examples(unittest.TestCase):
    def test_the_examples_of_the_document(self):
        circuit = parse("circuit c\ninput a b\ngate n not a\ngate x and a n\ngate y or x b\noutput y\n")[1]
        self.assertEqual(answer(circuit, None, ("stem", "y", 1))[0], "parted")
        self.assertEqual(answer(circuit, None, ("stem", "x", 0))[0], "alike")
        self.assertIsNone(check_paper(circuit, None, ("stem", "x", 0), ("case", 0, ("leaf",), ("leaf",))))
        self.assertRaises(BadPaper, check_paper, circuit, None, ("stem", "x", 0), ("leaf",))
        self.assertRaises(BadPaper, check_paper, circuit, None, ("stem", "y", 1), ("case", 0, ("leaf",), ("leaf",)))


class SmallCircuits(Answers):
    def test_every_two_versions(self):
        for parts in samples.SMALL + (PARITY,):
            circuit = Circuit(*parts)
            versions = samples.versions(parts)
            for one, other in itertools.product(versions, versions[::3]):
                self.follows(parts, one, other, circuit)

    def test_the_right_circuit_and_each_break(self):
        for parts in samples.ALL + (PARITY,):
            circuit = Circuit(*parts)
            for version in samples.versions(parts):
                self.follows(parts, None, version, circuit)
                self.follows(parts, version, None, circuit)

    def test_a_version_with_itself(self):
        for parts in samples.ALL + (PARITY,):
            circuit = Circuit(*parts)
            for version in samples.versions(parts):
                found = self.follows(parts, version, version, circuit)
                self.assertEqual(found[0], "alike")

    def test_mixed_circuits(self):
        for start in range(40):
            parts = samples.mixed(start, start % 6, 2 + start % 11)
            circuit = Circuit(*parts)
            versions = samples.versions(parts)
            for k, version in enumerate(versions):
                other = versions[(7 * k + start) % len(versions)]
                self.follows(parts, None, version, circuit)
                self.follows(parts, version, other, circuit)

    def test_by_hand(self):
        half = Circuit(*samples.HALF)
        self.assertEqual(answer(half, None, None), ("alike", ("leaf",)))
        self.assertEqual(answer(half, None, ("stem", "c", 0)), ("parted", (1, 1)))
        self.assertEqual(answer(half, ("pin", "c", 0, 0), ("stem", "c", 0)), ("alike", ("leaf",)))
        # A short with itself is alike, which no leaf alone shows.
        short = ("short", "a", "b", "and")
        self.assertGreater(size_of(answer(half, short, short)[1]), 1)

    def test_what_a_register_takes_counts(self):
        parts = (("a",), (("p", "a"), ("q", "p")), (), ())
        self.assertEqual(self.follows(parts, None, ("stem", "a", 0))[0], "parted")
        self.assertEqual(self.follows(parts, None, ("stem", "p", 1))[0], "parted")
        self.assertEqual(self.follows(parts, None, ("stem", "q", 1))[0], "alike")


class FewSources(Answers):
    def test_no_source(self):
        for parts in (samples.NOTHING, samples.ONLY_CONSTANTS):
            circuit = Circuit(*parts)
            for one, other in itertools.product(samples.versions(parts), repeat=2):
                found = self.follows(parts, one, other, circuit)
                self.assertIn(found, [("parted", ()), ("alike", ("leaf",))])

    def test_one_source(self):
        gates = (("n", "not", ("a",)), ("x", "and", ("a", "n")), ("y", "or", ("a", "n")), ("z", "xor", ("x", "y", "a")))
        for parts in ((("a",), (), gates, ("z",)), ((), (("a", "z"),), gates, ("y",)), (("a",), (), (), ("a",))):
            circuit = Circuit(*parts)
            for one, other in itertools.product(samples.versions(parts), repeat=2):
                self.follows(parts, one, other, circuit)


class ManySources(Answers):
    def holds(self, parts, pairs):
        """Hold the answers against all patterns at once."""
        circuit = Circuit(*parts)
        patterns = oracle.patterns_of(parts)
        trial = Trial(circuit, patterns)
        kinds = set()
        for one, other in pairs:
            with self.subTest(parts=parts, one=one, other=other):
                first, second = trial.words(one), trial.words(other)
                apart = 0
                for line in circuit.sinks():
                    apart |= first[line] ^ second[line]
                word, found = answer(circuit, one, other)
                kinds.add(word)
                if word == "alike":
                    self.assertEqual(apart, 0)
                    self.assertIsNone(check_paper(circuit, one, other, found))
                else:
                    filling = [k for k, pattern in enumerate(patterns) if oracle.fills(pattern, found)]
                    self.assertTrue(filling)
                    self.assertTrue(all(apart >> k & 1 for k in filling))
        self.assertEqual(kinds, {"alike", "parted"})

    def test_ten_sources_and_more(self):
        for start, sources, gates in ((3, 10, 30), (10, 11, 60), (20, 12, 40)):
            parts = samples.mixed(start, sources, gates)
            versions = samples.versions(parts)
            step = len(versions) // 25
            pairs = [(None, version) for version in versions[::step]]
            pairs.extend((one, versions[(11 * k + 5) % len(versions)]) for k, one in enumerate(versions[::step]))
            pairs.extend((version, version) for version in versions[::2 * step])
            self.holds(parts, pairs)

    def test_a_long_row_of_mixed_gates(self):
        kinds = ("and", "or", "nand", "xor", "nor", "xnor")
        inputs = tuple(f"i{k}" for k in range(10))
        gates = [("g0", "and", ("i0", "i1"))]
        for k in range(1, 130):
            gates.append((f"g{k}", kinds[k % 6], (f"g{k - 1}", f"i{k % 10}")))
        parts = (inputs, (), tuple(gates), ("g129", "g60"))
        self.holds(parts, [(None, version) for version in samples.stems(parts)[::13] + samples.pins(parts)[::29]])
        short = ("short", "i3", "i7", "or")
        self.holds(parts, [(short, short), (short, ("stem", "g100", 1)), (None, short)])

    def test_a_long_row_with_one_source(self):
        gates = [("g0", "not", ("a",))] + [(f"g{k}", "not", (f"g{k - 1}",)) for k in range(1, 399)]
        parts = (("a",), (), tuple(gates), ("g398",))
        circuit = Circuit(*parts)
        for version in samples.stems(parts)[::40] + samples.pins(parts)[::40]:
            self.assertEqual(answer(circuit, None, version)[0], "parted")
        self.assertEqual(answer(circuit, ("stem", "g10", 0), ("stem", "g11", 1)), ("alike", ("leaf",)))
        self.assertEqual(answer(circuit, ("stem", "g10", 0), ("stem", "g11", 0))[0], "parted")

    def test_forty_sources(self):
        inputs = tuple(f"i{k}" for k in range(40))
        for kind, bit in (("and", 1), ("or", 0)):
            gates = [("g0", kind, ("i0", "i1"))]
            gates.extend((f"g{k}", kind, (f"g{k - 1}", f"i{k + 1}")) for k in range(1, 39))
            circuit = Circuit(inputs, (), gates, ("g38",))
            self.assertEqual(answer(circuit, None, ("stem", "g38", 1 - bit)), ("parted", (bit,) * 40))
            word, partial = answer(circuit, None, ("stem", "i7", bit))
            self.assertEqual(word, "parted")
            self.assertEqual(partial, tuple(1 - bit if k == 7 else bit for k in range(40)))
            self.assertEqual(answer(circuit, ("stem", "i7", 1 - bit), ("stem", "g38", 1 - bit))[0], "alike")

    def test_two_ways_to_a_parity_of_ten(self):
        names = [f"i{k}" for k in range(10)]
        gates = [("l0", "xor", ("i0", "i1")), ("r0", "xor", ("i9", "i8"))]
        gates.extend((f"l{k}", "xor", (f"l{k - 1}", f"i{k + 1}")) for k in range(1, 9))
        gates.extend((f"r{k}", "xor", (f"r{k - 1}", f"i{8 - k}")) for k in range(1, 9))
        gates.extend([("d", "xor", ("l8", "r8")), ("o", "or", ("d", "i4"))])
        circuit = Circuit(names, (), gates, ("o",))
        word, paper = answer(circuit, None, ("stem", "d", 0))
        self.assertEqual(word, "alike")
        self.assertIsNone(check_paper(circuit, None, ("stem", "d", 0), paper))
        self.assertEqual(answer(circuit, None, ("stem", "d", 1))[0], "parted")


class WrongVersions(unittest.TestCase):
    def test_at_each_place(self):
        circuit = Circuit(*samples.HALF)
        for version in NO_VERSIONS + samples.STRANGE:
            if version is None:
                continue
            with self.subTest(version=version):
                self.assertRaises(BadBreak, answer, circuit, version, None)
                self.assertRaises(BadBreak, answer, circuit, None, version)
                self.assertRaises(BadBreak, answer, circuit, version, version)
                self.assertRaises(BadBreak, answer, circuit, ("stem", "c", 0), version)


class Arguments(unittest.TestCase):
    def test_the_circuit_stays(self):
        circuit = Circuit(*samples.TEN)
        kept = copy.deepcopy(vars(circuit))
        for version in samples.versions(samples.TEN)[::9]:
            answer(circuit, None, version)
            answer(circuit, version, version)
        self.assertEqual(vars(circuit), kept)

    def test_the_same_answer_again(self):
        circuit = Circuit(*samples.TEN)
        for version in samples.versions(samples.TEN)[::5]:
            self.assertEqual(answer(circuit, None, version), answer(Circuit(*samples.TEN), None, version))


if __name__ == "__main__":
    unittest.main()
