"""Tests of points 300 to 303: pair sets."""

import itertools
import unittest

import oracle
import samples
from probewright import pairs
from probewright.circuits import KINDS, Circuit
from probewright.errors import BadBreak, BadPattern
from probewright.meaning import values
from probewright.pairs import check_partial, gate_mark, marks_of, sink_marks
from test_meaning import NO_VERSIONS

ZEROS, RISE, FALL, ONES = 1, 2, 4, 8

NO_PARTIALS = [
    (), (0,), (None,), (0, 1, None), (None, None, None), [0, None], [None, None], (0, True), (False, None),
    (None, 2), (-1, None), ("0", None), (None, "-"), "--", "01", None, 0, True, {0: None, 1: None}, ((0, None),),
    (0, 1.0), ([], None), ((), ()), object(),
]


def pairs_of(mark):
    """Return the pairs of a pair set (point 301)."""
    places = {1: (0, 0), 2: (0, 1), 4: (1, 0), 8: (1, 1)}
    return [pair for worth, pair in places.items() if mark & worth]


class Constants(unittest.TestCase):
    def test_their_values(self):
        self.assertEqual((pairs.EQUAL, pairs.UNEQUAL), (ZEROS + ONES, RISE + FALL))


class GateMark(unittest.TestCase):
    def test_by_hand(self):
        expected = [
            ("low", [], ZEROS), ("high", [], ONES),
            ("buf", [RISE], RISE), ("buf", [7], 7), ("not", [RISE], FALL), ("not", [ZEROS], ONES),
            ("not", [ZEROS + RISE], ONES + FALL), ("not", [15], 15), ("not", [9], 9),
            ("and", [RISE], RISE), ("or", [FALL + ZEROS], FALL + ZEROS), ("xor", [6], 6),
            ("nand", [RISE], FALL), ("nor", [ZEROS], ONES), ("xnor", [ONES + RISE], ZEROS + FALL),
            ("and", [RISE, FALL], ZEROS), ("or", [RISE, FALL], ONES), ("xor", [RISE, FALL], ONES),
            ("and", [9, 9], 9), ("xor", [9, 9], 9), ("and", [9, RISE], ZEROS + RISE),
            ("or", [9, RISE], RISE + ONES), ("xor", [9, RISE], RISE + FALL), ("nand", [9, RISE], ONES + FALL),
            ("nor", [9, RISE], FALL + ZEROS), ("xnor", [9, RISE], FALL + RISE),
            ("and", [6, 6], ZEROS + RISE + FALL), ("or", [6, 6], RISE + FALL + ONES), ("xor", [6, 6], 9),
            ("xor", [RISE, RISE, RISE], RISE), ("xnor", [RISE, RISE, RISE], FALL),
            ("and", [ONES, ONES, ONES, FALL], FALL), ("nor", [ZEROS, ZEROS, ZEROS, FALL], RISE),
        ]
        for kind, marks, mark in expected:
            with self.subTest(kind=kind, marks=marks):
                self.assertEqual(gate_mark(kind, marks), mark)

    def test_all_pair_sets_of_up_to_two_pins_and_many_of_more(self):
        for kind in KINDS:
            fits = (0,) if kind in ("low", "high") else (1,) if kind in ("not", "buf") else (1, 2, 3, 4)
            for many in fits:
                marks = range(1, 16) if many < 3 else (1, 2, 6, 9, 13) if many == 3 else (2, 5, 8)
                for chosen in itertools.product(marks, repeat=many):
                    expected = {
                        tuple(oracle.VALUE[kind]([pair[side] for pair in at_pins]) for side in (0, 1))
                        for at_pins in itertools.product(*[pairs_of(mark) for mark in chosen])
                    }
                    given = list(chosen)
                    with self.subTest(kind=kind, marks=given):
                        self.assertEqual(gate_mark(kind, given), oracle.mark(expected))
                        self.assertEqual(given, list(chosen))


class ByHand(unittest.TestCase):
    def marks(self, parts, one, other, partial, **expected):
        found = marks_of(Circuit(*parts), one, other, partial)
        self.assertEqual({line: found[line] for line in expected}, expected)

    def test_sources(self):
        parts = (("a", "b"), (("c", "a"),), (), ())
        self.marks(parts, None, None, (0, 1, None), a=1, b=8, c=9)
        self.marks(parts, None, None, (None, 0, 1), a=9, b=1, c=8)

    def test_stuck_sources(self):
        parts = (("a",), (), (), ())
        self.marks(parts, ("stem", "a", 0), None, (None,), a=ZEROS + RISE)
        self.marks(parts, None, ("stem", "a", 0), (None,), a=ZEROS + FALL)
        self.marks(parts, ("stem", "a", 1), None, (None,), a=FALL + ONES)
        self.marks(parts, None, ("stem", "a", 1), (None,), a=RISE + ONES)
        self.marks(parts, ("stem", "a", 0), ("stem", "a", 1), (None,), a=RISE)
        self.marks(parts, ("stem", "a", 1), ("stem", "a", 0), (0,), a=FALL)
        self.marks(parts, ("stem", "a", 1), ("stem", "a", 1), (None,), a=ONES)
        self.marks(parts, ("stem", "a", 1), None, (0,), a=FALL)
        self.marks(parts, ("stem", "a", 1), None, (1,), a=ONES)

    def test_a_line_that_reaches_a_gate_twice(self):
        # As if the pins were independent: `x` is always 0, and `y` always 0 too.
        parts = (("a",), (), (("n", "not", ("a",)), ("x", "and", ("a", "n")), ("y", "xor", ("a", "a"))), ("x", "y"))
        self.marks(parts, None, None, (None,), n=9, x=9, y=9)
        self.marks(parts, None, None, (0,), n=8, x=1, y=1)
        self.marks(parts, None, None, (1,), n=1, x=1, y=1)
        self.marks(parts, ("stem", "a", 1), None, (None,), a=12, n=3, x=3, y=3)

    def test_stuck_lines_of_gates(self):
        self.marks(samples.HALF, ("stem", "s", 0), None, (None, None), s=ZEROS + RISE, c=9)
        self.marks(samples.HALF, None, ("stem", "s", 0), (1, None), s=ZEROS + FALL, c=9)
        self.marks(samples.HALF, ("stem", "s", 0), ("stem", "c", 1), (1, 1), s=ZEROS, c=ONES)
        self.marks(samples.HALF, ("stem", "s", 0), ("stem", "s", 1), (None, None), s=RISE)

    def test_stuck_pins(self):
        parts = (("a",), (), (("x", "and", ("a", "a")), ("y", "or", ("a", "a")), ("z", "buf", ("a",))), ())
        self.marks(parts, ("pin", "x", 1, 0), None, (None,), x=ZEROS + RISE, y=9, z=9)
        self.marks(parts, ("pin", "x", 1, 0), None, (1,), x=RISE, y=ONES, z=ONES)
        self.marks(parts, None, ("pin", "x", 0, 0), (1,), x=FALL, y=ONES)
        self.marks(parts, ("pin", "y", 0, 1), ("pin", "y", 1, 1), (0,), x=ZEROS, y=ONES)
        self.marks(parts, ("pin", "y", 0, 1), ("pin", "y", 0, 1), (0,), y=ONES)
        self.marks(parts, ("pin", "y", 0, 1), ("pin", "y", 0, 0), (0,), y=FALL)
        self.marks(parts, ("pin", "z", 0, 0), ("pin", "z", 0, 1), (None,), z=RISE)
        # The right sides of the two pins do not know each other any more.
        self.marks(parts, ("pin", "x", 0, 1), None, (None,), x=ZEROS + FALL + ONES)

    def test_a_stuck_pin_and_a_stuck_line_of_the_same_gate(self):
        parts = (("a", "b"), (), (("x", "and", ("a", "b")),), ("x",))
        self.marks(parts, ("pin", "x", 0, 1), ("stem", "x", 0), (0, 1), x=FALL)
        self.marks(parts, ("stem", "x", 1), ("pin", "x", 0, 0), (None, None), x=FALL)
        self.marks(parts, ("stem", "b", 0), ("pin", "x", 1, 1), (1, None), b=ZEROS + RISE, x=RISE)

    def test_shorts_in_one_version(self):
        self.marks(samples.HALF, ("short", "a", "b", "and"), None, (1, 0), a=RISE, b=ZEROS, s=RISE, c=ZEROS)
        self.marks(samples.HALF, None, ("short", "a", "b", "and"), (1, 0), a=FALL, b=ZEROS, s=FALL, c=ZEROS)
        self.marks(samples.HALF, ("short", "a", "b", "or"), None, (1, 0), a=ONES, b=FALL, s=RISE, c=FALL)
        self.marks(samples.HALF, ("short", "a", "b", "or"), None, (1, None), a=ONES, b=FALL + ONES)
        # The short is 0 or 1; every pair of the line takes each of these.
        self.marks(samples.HALF, ("short", "a", "b", "and"), None, (1, None), a=RISE + ONES, b=15)
        self.marks(samples.HALF, ("short", "a", "b", "and"), None, (0, None), a=ZEROS, b=ZEROS + RISE)
        self.marks(samples.HALF, None, ("short", "c", "s", "or"), (None, None), a=9, b=9, c=15, s=15)

    def test_shorts_in_both_versions(self):
        one = ("short", "a", "b", "and")
        other = ("short", "a", "b", "or")
        self.marks(samples.HALF, one, other, (1, 0), a=RISE, b=RISE, s=ZEROS, c=RISE)
        self.marks(samples.HALF, other, one, (0, 1), a=FALL, b=FALL, s=ZEROS, c=FALL)
        self.marks(samples.HALF, one, one, (None, None), a=15, b=15)
        self.marks(samples.HALF, one, one, (0, None), a=ZEROS, b=ZEROS)
        self.marks(samples.HALF, one, other, (1, None), a=RISE + ONES, b=RISE + ONES)
        self.marks(samples.HALF, one, ("stem", "a", 1), (1, None), a=RISE + ONES, b=15)
        self.marks(samples.HALF, ("stem", "b", 0), one, (1, None), a=FALL + ONES, b=ZEROS + RISE)

    def test_a_short_takes_the_values_of_the_right_circuit(self):
        # In the first version `m` and `n` are stuck; the short of the second
        # version is made of what they are in the right circuit.
        parts = (("a", "b"), (), (("m", "buf", ("a",)), ("n", "buf", ("b",))), ("m", "n"))
        self.marks(parts, ("stem", "m", 0), ("short", "m", "n", "and"), (1, 1), m=RISE, n=ONES)
        self.marks(parts, ("stem", "a", 0), ("short", "m", "n", "and"), (1, 1), a=RISE, m=RISE, n=ONES)
        # Its values come from the pair sets of None and None: `x` is always
        # 0, but has both values there.
        parts = (("a", "b"), (), (("n", "not", ("a",)), ("x", "and", ("a", "n")), ("z", "buf", ("b",))), ("z",))
        self.marks(parts, None, ("short", "x", "z", "or"), (None, 0), x=15, z=ZEROS + RISE)
        self.marks(parts, None, ("short", "x", "z", "or"), (1, 0), x=ZEROS, z=ZEROS)


class AllVersions(unittest.TestCase):
    def compare(self, parts, one, other, partials):
        circuit = Circuit(*parts)
        for partial in partials:
            with self.subTest(parts=parts, one=one, other=other, partial=partial):
                found = marks_of(circuit, one, other, partial)
                self.assertIs(type(found), dict)
                self.assertEqual(found, oracle.marks(parts, one, other, partial))
                self.assertEqual(
                    sink_marks(circuit, one, other, partial), [found[line] for line in oracle.sinks_of(parts)])

    def test_one_right_version(self):
        for parts in samples.SMALL + (samples.NO_GATES,):
            for version in samples.versions(parts):
                partials = oracle.partials_of(parts)
                self.compare(parts, None, version, partials[::1 if len(partials) < 30 else 5])
                self.compare(parts, version, None, partials[::1 if len(partials) < 30 else 7])

    def test_two_versions(self):
        for parts in (samples.HALF, samples.NARROW):
            versions = samples.versions(parts)
            for one in versions:
                for other in versions[::5]:
                    self.compare(parts, one, other, oracle.partials_of(parts)[1::3])
                self.compare(parts, one, one, oracle.partials_of(parts))

    def test_the_largest_sample(self):
        partials = oracle.partials_of(samples.TEN)
        versions = samples.versions(samples.TEN)
        for k, version in enumerate(versions):
            self.compare(samples.TEN, None, version, partials[k::487])
            self.compare(samples.TEN, version, versions[k * 7 % len(versions)], partials[k::971])

    def test_mixed_circuits(self):
        for start in range(40, 60):
            parts = samples.mixed(start, 1 + start % 4, 6)
            partials = oracle.partials_of(parts)
            versions = samples.versions(parts)
            for k, version in enumerate(versions):
                self.compare(parts, version, versions[-1 - k], partials[k % 3::13])


class Patterns(unittest.TestCase):
    """Point 303: the pair of every pattern is in the pair set."""

    def holds(self, parts, one, other, partials):
        circuit = Circuit(*parts)
        for partial in partials:
            found = marks_of(circuit, one, other, partial)
            for pattern in oracle.filling(partial):
                first = values(circuit, one, pattern)
                second = values(circuit, other, pattern)
                for line, mark in found.items():
                    with self.subTest(parts=parts, one=one, other=other, partial=partial, line=line):
                        self.assertIn((first[line], second[line]), pairs_of(mark))
                        self.assertTrue(1 <= mark <= 15)
                        if None not in partial:
                            self.assertEqual(pairs_of(mark), [(first[line], second[line])])

    def test_every_pattern_has_its_pair(self):
        for parts in (samples.HALF, samples.TWO_WAYS, samples.NARROW, samples.ONLY_CONSTANTS, samples.NOTHING):
            versions = samples.versions(parts)
            for k, version in enumerate(versions):
                self.holds(parts, None, version, oracle.partials_of(parts))
                self.holds(parts, version, versions[(5 * k + 3) % len(versions)], oracle.partials_of(parts))

    def test_nothing_is_open(self):
        for parts in (samples.WIDE, samples.NO_GATES):
            versions = samples.versions(parts)
            for k, version in enumerate(versions):
                self.holds(parts, version, versions[(3 * k + 1) % len(versions)], oracle.patterns_of(parts)[::5])

    def test_all_is_open(self):
        for parts in (samples.WIDE, samples.NO_GATES):
            many = len(oracle.sources_of(parts))
            for version in samples.versions(parts)[::2]:
                self.holds(parts, None, version, [(None,) * many])

    def test_mixed_circuits(self):
        for start in range(60, 70):
            parts = samples.mixed(start, 1 + start % 3, 6)
            versions = samples.versions(parts)
            for k, version in enumerate(versions[::2]):
                self.holds(parts, version, versions[(k * 3 + start) % len(versions)], oracle.partials_of(parts)[::4])


class Sinks(unittest.TestCase):
    def test_in_the_order_of_the_sinks(self):
        circuit = Circuit(("a", "b", "c"), (("p", "b"), ("q", "x")), (("x", "buf", ("c",)),), ("x", "a", "x"))
        self.assertEqual(
            sink_marks(circuit, None, ("stem", "c", 0), (0, 1, 1, None, None)), [FALL, ZEROS, FALL, ONES, FALL])
        self.assertEqual(sink_marks(circuit, None, None, (None, 1, 0, 0, 0)), [ZEROS, 9, ZEROS, ONES, ZEROS])

    def test_no_sinks(self):
        circuit = Circuit(("a",), (), (), ())
        self.assertEqual(sink_marks(circuit, None, ("stem", "a", 0), (None,)), [])


class Refusals(unittest.TestCase):
    def setUp(self):
        self.circuit = Circuit(*samples.HALF)

    def refuses(self, error, one, other, partial):
        with self.subTest(one=one, other=other, partial=partial):
            self.assertRaises(error, marks_of, self.circuit, one, other, partial)
            self.assertRaises(error, sink_marks, self.circuit, one, other, partial)

    def test_partials(self):
        for partial in NO_PARTIALS:
            with self.subTest(partial=partial):
                self.assertRaises(BadPattern, check_partial, self.circuit, partial)
            self.refuses(BadPattern, None, None, partial)
            self.refuses(BadPattern, ("stem", "a", 0), None, partial)
            self.refuses(BadPattern, None, ("short", "a", "b", "or"), partial)

    def test_right_partials(self):
        for parts in samples.ALL:
            circuit = Circuit(*parts)
            for partial in oracle.partials_of(parts)[:200]:
                self.assertIsNone(check_partial(circuit, partial))

    def test_versions(self):
        for version in NO_VERSIONS:
            self.refuses(BadBreak, version, None, (None, 0))
            self.refuses(BadBreak, None, version, (None, 0))
            self.refuses(BadBreak, version, version, (None, 0))

    def test_both_at_once(self):
        for version in NO_VERSIONS:
            for partial in NO_PARTIALS:
                self.refuses(BadBreak, version, None, partial)
                self.refuses(BadBreak, None, version, partial)


if __name__ == "__main__":
    unittest.main()
