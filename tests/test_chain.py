"""Tests of points 600 to 606: the chains and the tester."""

import copy
import itertools
import unittest
from unittest.mock import ANY

import oracle
import samples
from probewright.chain import Tester, chains, is_step, program_of, read_back, run
from probewright.circuits import Circuit
from probewright.errors import BadBreak, BadPattern, BadTester
from probewright.many import responses
from test_meaning import NO_PATTERNS, NO_VERSIONS

THREE = (("a",), (("p", "z"), ("q", "p"), ("r", "q")), (("z", "xor", ("a", "r")),), ("z",))
NO_COUNTS = [0, -1, True, False, None, "1", 1.0, (1,), [1], ANY, 10 ** 30]


def registers(many):
    """Return the parts of a circuit whose registers take mixed values."""
    held = [f"r{k}" for k in range(many)]
    gates = [(f"g{k}", ("xor", "nand", "or")[k % 3], (held[k - 1], held[k - many // 2], "a")) for k in range(many)]
    pairs = tuple((line, f"g{(3 * k + 1) % many}") for k, line in enumerate(held))
    outputs = tuple(held[:1] + ["a"])
    return (("a", "b"), pairs, tuple(gates), outputs)


def cut(size, count):
    """Return the lengths of the chains."""
    return [len([k for k in range(size) if k % count == place]) for place in range(count)]


class Chains(unittest.TestCase):
    def test_by_hand(self):
        for many, count, found in [
            (3, 2, [(0, 1), (2,)]), (3, 1, [(0, 1, 2)]), (3, 3, [(0,), (1,), (2,)]), (1, 1, [(0,)]), (0, 1, [()]),
            (7, 3, [(0, 1, 2), (3, 4), (5, 6)]), (8, 3, [(0, 1, 2), (3, 4, 5), (6, 7)]),
            (5, 4, [(0, 1), (2,), (3,), (4,)]), (6, 2, [(0, 1, 2), (3, 4, 5)]),
        ]:
            with self.subTest(many=many, count=count):
                self.assertEqual(chains(Circuit(*registers(many)), count), found)

    def test_all_counts(self):
        for many in range(1, 12):
            circuit = Circuit(*registers(many))
            for count in range(1, many + 1):
                with self.subTest(many=many, count=count):
                    found = chains(circuit, count)
                    self.assertIs(type(found), list)
                    self.assertEqual([len(chain) for chain in found], cut(many, count))
                    self.assertEqual([index for chain in found for index in chain], list(range(many)))
                    self.assertTrue(all(type(chain) is tuple for chain in found))

    def test_forty_registers(self):
        held = tuple((f"r{k}", f"r{k - 1}" if k else "r39") for k in range(40))
        circuit = Circuit((), held, (), ())
        self.assertEqual([len(chain) for chain in chains(circuit, 7)], [6, 6, 6, 6, 6, 5, 5])

    def test_counts_out_of_range(self):
        for many in (0, 1, 3):
            circuit = Circuit(*registers(many))
            for count in NO_COUNTS + [max(1, many) + 1, many + 10]:
                with self.subTest(many=many, count=count):
                    self.assertRaises(BadTester, chains, circuit, count)
                    self.assertRaises(BadTester, Tester, circuit, None, count, (0,) * many)
                    self.assertRaises(BadTester, run, circuit, None, count, (0,) * many, [])
                    self.assertRaises(BadTester, program_of, circuit, count, [])
                    self.assertRaises(BadTester, read_back, circuit, count, [()] * many)

    def test_what_is_returned_may_be_changed(self):
        circuit = Circuit(*registers(3))
        chains(circuit, 2).clear()
        self.assertEqual(chains(circuit, 2), [(0, 1), (2,)])


class Bench:
    """The steps of point 602, with a list for each chain."""

    def __init__(self, parts, version, count, start):
        self.parts = parts
        self.version = version
        bits = list(start)
        self.rows = []
        for length in cut(len(parts[1]), count):
            self.rows.append(bits[:length])
            bits = bits[length:]

    def stored(self):
        return tuple(bit for row in self.rows for bit in row)

    def do(self, step):
        word, bits = step
        if word == "shift":
            log = []
            for row, bit in zip(self.rows, bits):
                row.insert(0, bit)
                log.append(row.pop())
            return tuple(log)
        values = oracle.values(self.parts, self.version, bits + self.stored())
        if word == "clock":
            taken = [values[line] for _, line in self.parts[1]]
            for row in self.rows:
                row[:] = [taken.pop(0) for _ in row]
        return tuple(values[line] for line in self.parts[3])


def programs(parts, count, numbers):
    """Return a program of steps of all kinds."""
    program = []
    for _ in range(14):
        word = ("shift", "look", "clock", "shift")[numbers.below(4)]
        many = count if word == "shift" else len(parts[0])
        program.append((word, tuple(numbers.below(2) for _ in range(many))))
    return program


class Steps(unittest.TestCase):
    def test_the_examples_of_the_document(self):
        circuit = Circuit(*THREE)
        self.assertEqual(chains(circuit, 2), [(0, 1), (2,)])
        program = program_of(circuit, 2, [(1, 0, 1, 1)])
        self.assertEqual(
            program, [("shift", (1, 0)), ("shift", (0, 1)), ("clock", (1,)), ("shift", (0, 0)), ("shift", (0, 0))])
        log = [(0, 0), (0, 0), (0,), (0, 0), (0, 0)]
        self.assertEqual(run(circuit, ("stem", "q", 0), 2, (0, 0, 0), program), log)
        self.assertEqual(read_back(circuit, 2, log), [(0, 0, 0, 0)])

    def test_by_hand(self):
        tester = Tester(Circuit(*THREE), None, 1, (1, 0, 1))
        self.assertEqual(tester.stored(), (1, 0, 1))
        self.assertEqual(tester.look((1,)), (0,))
        self.assertEqual(tester.look((0,)), (1,))
        self.assertEqual(tester.stored(), (1, 0, 1))
        self.assertEqual(tester.shift((0,)), (1,))
        self.assertEqual(tester.stored(), (0, 1, 0))
        self.assertEqual(tester.clock((1,)), (1,))
        self.assertEqual(tester.stored(), (1, 0, 1))

    def test_a_stuck_line_of_a_register_holds_its_bit(self):
        tester = Tester(Circuit(*THREE), ("stem", "q", 0), 3, (1, 1, 1))
        self.assertEqual(tester.stored(), (1, 1, 1))
        self.assertEqual(tester.shift((1, 1, 0)), (1, 1, 1))
        self.assertEqual(tester.stored(), (1, 1, 0))
        # The register r takes the stuck value, and q itself takes what p has.
        self.assertEqual(tester.clock((0,)), (0,))
        self.assertEqual(tester.stored(), (0, 1, 0))

    def test_no_registers(self):
        circuit = Circuit(*samples.HALF)
        tester = Tester(circuit, None, 1, ())
        self.assertEqual(tester.stored(), ())
        self.assertEqual((tester.shift((0,)), tester.shift((1,))), ((0,), (1,)))
        self.assertEqual((tester.look((1, 1)), tester.clock((1, 0))), ((0, 1), (1, 0)))
        self.assertEqual(
            run(circuit, ("stem", "c", 1), 1, (), [("shift", (1,)), ("clock", (0, 0))]), [(1,), (0, 1)])
        self.assertEqual(
            run(Circuit((), (), (), ()), None, 1, (), [("look", ()), ("shift", (0,)), ("clock", ())]), [(), (0,), ()])

    def test_all_versions_step_by_step(self):
        numbers = samples.Numbers(9)
        circuits = [THREE, samples.WIDE, samples.NO_GATES, samples.HALF, samples.TEN, registers(5)]
        circuits += [samples.mixed(start, 5, 7) for start in range(6)]
        for parts in circuits:
            circuit = Circuit(*parts)
            size = len(parts[1])
            for k, version in enumerate(samples.versions(parts)):
                count = 1 + k % max(1, size)
                start = tuple(numbers.below(2) for _ in range(size))
                program = programs(parts, count, numbers)
                bench = Bench(parts, version, count, start)
                tester = Tester(circuit, version, count, start)
                log = []
                with self.subTest(parts=parts, version=version, count=count, start=start, program=program):
                    self.assertEqual(tester.stored(), start)
                    for word, bits in program:
                        log.append(bench.do((word, bits)))
                        self.assertEqual(
                            {"shift": tester.shift, "look": tester.look, "clock": tester.clock}[word](bits), log[-1])
                        self.assertEqual(tester.stored(), bench.stored())
                    kept = list(program)
                    self.assertEqual(run(circuit, version, count, start, program), log)
                    self.assertEqual(program, kept)

    def test_an_empty_program(self):
        self.assertEqual(run(Circuit(*THREE), None, 2, (0, 1, 0), []), [])

    def test_two_testers_do_not_share_what_they_hold(self):
        circuit = Circuit(*THREE)
        start = (1, 1, 0)
        one, other = Tester(circuit, None, 1, start), Tester(circuit, None, 1, start)
        one.shift((0,))
        self.assertEqual((one.stored(), other.stored(), start), ((0, 1, 1), (1, 1, 0), (1, 1, 0)))


NO_BITS = [(), (0, 0), (0, 0, 0, 0), (True,), (False,), (2,), (-1,), (None,), ("0",), (0.0,), ((0,),), [0], "0", b"0",
           None, 0, 1, True, {0: 0}, {0}, ANY, (ANY,), object()]


class WrongSteps(unittest.TestCase):
    def test_a_step_of_a_wrong_form_changes_nothing(self):
        tester = Tester(Circuit(*THREE), None, 1, (1, 0, 1))
        for bits in NO_BITS:
            with self.subTest(bits=bits):
                self.assertRaises(BadTester, tester.shift, bits)
                self.assertRaises(BadTester, tester.look, bits)
                self.assertRaises(BadTester, tester.clock, bits)
                self.assertEqual(tester.stored(), (1, 0, 1))
        self.assertEqual(tester.shift((0,)), (1,))

    def test_the_length_is_that_of_the_chains_and_of_the_inputs(self):
        circuit = Circuit(*registers(4))
        tester = Tester(circuit, None, 3, (0, 1, 1, 0))
        self.assertRaises(BadTester, tester.shift, (0, 1))
        self.assertRaises(BadTester, tester.shift, (0, 1, 1, 0))
        self.assertRaises(BadTester, tester.clock, (0, 1, 1))
        self.assertRaises(BadTester, tester.look, (0,))
        self.assertEqual(tester.stored(), (0, 1, 1, 0))
        self.assertEqual(tester.shift((1, 1, 0)), (1, 1, 0))

    def test_is_step(self):
        circuit = Circuit(*THREE)
        for value in (("shift", (0, 1)), ("look", (0,)), ("clock", (1,))):
            self.assertIs(is_step(circuit, 2, value), True)
        self.assertIs(is_step(circuit, 1, ("shift", (0,))), True)
        self.assertIs(is_step(Circuit(*samples.HALF), 1, ("shift", (0,))), True)
        self.assertIs(is_step(Circuit((), (), (), ()), 1, ("look", ())), True)
        wrong = [
            ("shift", (0,)), ("shift", (0, 1, 1)), ("shift", ()), ("look", ()), ("look", (0, 1)), ("clock", (0, 1)),
            ("shift", [0, 1]), ("look", [0]), ("clock", 0), ("clock", (True,)), ("clock", (2,)), ("shift", (0, None)),
            ("Shift", (0, 1)), ("step", (0,)), ("", ()), ("shift",), ("clock", (0,), 0), ["clock", (0,)],
            (ANY, (0,)), (ANY, (0, 1)), ("clock", ANY), (b"clock", (0,)), (None, (0,)), (["clock"], (0,)), "clock",
            ("l", "c"), ((0,), "clock"), {"clock": (0,)}, ("clock", "0"), ("clock", {0: 1}),
        ]
        for value in wrong + samples.STRANGE:
            with self.subTest(value=value):
                self.assertIs(is_step(circuit, 2, value), False)

    def test_is_step_for_values_of_any_length(self):
        circuit = Circuit(*registers(4))
        for count in range(1, 5):
            for many in range(6):
                for word, fits in (("shift", count), ("look", 2), ("clock", 2)):
                    for bits in itertools.product((0, 1), repeat=many):
                        self.assertIs(is_step(circuit, count, (word, bits)), many == fits)


class WrongArguments(unittest.TestCase):
    def test_versions_ahead_of_all_others(self):
        circuit = Circuit(*registers(2))
        for version in NO_VERSIONS + samples.STRANGE:
            if version is None:
                continue
            with self.subTest(version=version):
                self.assertRaises(BadBreak, Tester, circuit, version, 1, (0, 0))
                self.assertRaises(BadBreak, Tester, circuit, version, 0, (0, 0))
                self.assertRaises(BadBreak, Tester, circuit, version, 1, None)
                self.assertRaises(BadBreak, run, circuit, version, 1, (0, 0), [])
                self.assertRaises(BadBreak, run, circuit, version, 3, (0,), [7])
                self.assertRaises(BadBreak, run, circuit, version, 1, (0, 0), [None])

    def test_starts(self):
        circuit = Circuit(*registers(2))
        for start in [(), (0,), (0, 1, 0), [0, 1], (True, 0), (0, 2), (None, 0), "01", None, 0, ANY, (ANY, ANY)]:
            with self.subTest(start=start):
                self.assertRaises(BadTester, Tester, circuit, None, 1, start)
                self.assertRaises(BadTester, Tester, circuit, None, 0, start)
                self.assertRaises(BadTester, run, circuit, ("stem", "a", 0), 2, start, [])
                self.assertRaises(BadTester, run, circuit, None, 2, start, [None])

    def test_entries_of_the_program(self):
        circuit = Circuit(*registers(2))
        right = ("clock", (0, 1))
        for step in [("clock", (0,)), ("shift", (0, 0)), ("look", [0, 1]), ("shift", (True,))] + samples.STRANGE:
            for program in ([step], [right, step], [step, right], [right, right, step]):
                with self.subTest(program=program):
                    self.assertRaises(BadTester, run, circuit, None, 1, (0, 1), program)

    def test_nothing_is_run_ahead_of_the_checks(self):
        told = []

        class Watched(tuple):
            def __getitem__(self, at):
                told.append(at)
                return tuple.__getitem__(self, at)

        circuit = Circuit(*registers(2))
        with self.assertRaises(BadTester):
            run(circuit, None, 1, (0, 1), [("clock", (0, 1))] * 1000 + [("clock", Watched((0, 2)))])
        self.assertEqual(told, [])


class Programs(unittest.TestCase):
    def test_by_hand(self):
        circuit = Circuit(*registers(5))
        # The chains are (0, 1, 2) and (3, 4).
        self.assertEqual(program_of(circuit, 2, []), [("shift", (0, 0))] * 3)
        self.assertEqual(program_of(circuit, 2, [(1, 0, 1, 0, 0, 1, 1), (0, 1, 0, 1, 1, 0, 1)]), [
            ("shift", (0, 0)), ("shift", (0, 1)), ("shift", (1, 1)), ("clock", (1, 0)),
            ("shift", (1, 0)), ("shift", (1, 1)), ("shift", (0, 0)), ("clock", (0, 1)),
            ("shift", (0, 0)), ("shift", (0, 0)), ("shift", (0, 0))])

    def test_no_registers(self):
        circuit = Circuit(*samples.HALF)
        self.assertEqual(program_of(circuit, 1, []), [])
        self.assertEqual(program_of(circuit, 1, [(0, 1), (1, 1)]), [("clock", (0, 1)), ("clock", (1, 1))])
        self.assertEqual(read_back(circuit, 1, []), [])
        self.assertEqual(read_back(circuit, 1, [(0, 1), (1, 1)]), [(0, 1), (1, 1)])

    def test_the_registers_hold_the_pattern_at_each_clock(self):
        numbers = samples.Numbers(3)
        for many in range(1, 8):
            parts = registers(many)
            circuit = Circuit(*parts)
            for count in range(1, many + 1):
                patterns = [tuple(numbers.below(2) for _ in range(2 + many)) for _ in range(3)]
                kept = list(patterns)
                program = program_of(circuit, count, patterns)
                self.assertEqual(patterns, kept)
                tester = Tester(circuit, ("stem", "r0", 1), count, (1,) * many)
                seen = []
                for word, bits in program:
                    self.assertIs(is_step(circuit, count, (word, bits)), True)
                    if word == "clock":
                        seen.append(bits + tester.stored())
                        tester.clock(bits)
                    else:
                        self.assertEqual(word, "shift")
                        tester.shift(bits)
                with self.subTest(many=many, count=count):
                    self.assertEqual(seen, patterns)
                    longest = -(-many // count)
                    self.assertEqual(len(program), longest + 3 * (longest + 1))
                    self.assertEqual(program[-longest:], [("shift", (0,) * count)] * longest)

    def test_patterns_that_are_none(self):
        circuit = Circuit(("a",), (("p", "a"),), (), ())
        for pattern in NO_PATTERNS + samples.STRANGE:
            for patterns in ([pattern], [(0, 1), pattern]):
                with self.subTest(patterns=patterns):
                    self.assertRaises(BadPattern, program_of, circuit, 1, patterns)
                    # Both at once.
                    self.assertRaises(BadTester, program_of, circuit, 2, patterns)
                    self.assertRaises(BadTester, program_of, circuit, 1, [(0, 1)] * 1000 + patterns)

    def test_a_thousand_patterns(self):
        circuit = Circuit(*THREE)
        patterns = oracle.patterns_of(THREE) * 62 + oracle.patterns_of(THREE)[:8]
        self.assertEqual(len(patterns), 1000)
        program = program_of(circuit, 3, patterns)
        self.assertEqual(len(program), 2001)
        log = run(circuit, None, 3, (1, 0, 1), program)
        self.assertEqual(read_back(circuit, 3, log), responses(circuit, None, patterns))
        self.assertRaises(BadTester, program_of, circuit, 3, patterns + patterns[:1])
        more = [(0,), (0, 0, 0)]
        self.assertRaises(BadTester, read_back, circuit, 3, log + more)
        half = Circuit(*samples.HALF)
        self.assertEqual(len(read_back(half, 1, [(0, 0)] * 1000)), 1000)
        self.assertRaises(BadTester, read_back, half, 1, [(0, 0)] * 1001)
        self.assertRaises(BadTester, program_of, half, 1, [(0, 0)] * 1001)


class ReadingBack(unittest.TestCase):
    def test_every_version(self):
        numbers = samples.Numbers(21)
        circuits = [THREE, samples.WIDE, samples.NO_GATES, samples.HALF, samples.TEN, samples.NOTHING,
                    samples.ONLY_CONSTANTS, registers(1), registers(5)]
        circuits += [samples.mixed(start, 4, 6) for start in range(5)]
        for parts in circuits:
            circuit = Circuit(*parts)
            size = len(parts[1])
            patterns = oracle.patterns_of(parts)
            patterns = patterns[:6] + patterns[-5:] + patterns[1:2] * 2
            for version in samples.versions(parts):
                expected = [oracle.response(parts, version, pattern) for pattern in patterns]
                for count in range(1, max(1, size) + 1):
                    start = tuple(numbers.below(2) for _ in range(size))
                    log = run(circuit, version, count, start, program_of(circuit, count, patterns))
                    kept = list(log)
                    if read_back(circuit, count, log) != expected or log != kept:
                        self.fail((parts, version, count, start))

    def test_every_start_and_every_pattern(self):
        circuit = Circuit(*THREE)
        patterns = oracle.patterns_of(THREE)
        for version in samples.versions(THREE):
            for count in (1, 2, 3):
                for start in itertools.product((0, 1), repeat=3):
                    log = run(circuit, version, count, start, program_of(circuit, count, patterns))
                    with self.subTest(version=version, count=count, start=start):
                        self.assertEqual(read_back(circuit, count, log), list(oracle.responses(THREE, version)))

    def test_no_patterns(self):
        circuit = Circuit(*registers(4))
        self.assertEqual(read_back(circuit, 3, [(0, 1, 1), (1, 1, 0)]), [])

    def test_by_hand(self):
        # The chains are (0, 1, 2) and (3, 4): behind the clock, 2 and 4 leave first.
        circuit = Circuit(*registers(5))
        log = [(1, 1)] * 3 + [(0, 1), (1, 0), (0, 1), (0, 1)] + [(1, 1), (0, 0), (1, 1), (1, 0)]
        self.assertEqual(read_back(circuit, 2, log), [(0, 1, 0, 0, 1, 1, 0), (1, 1, 1, 1, 0, 1, 0)])

    def test_wrong_lengths(self):
        circuit = Circuit(*registers(5))
        entries = [(0, 0)] * 40
        for many in range(40):
            with self.subTest(many=many):
                if many >= 3 and (many - 3) % 4 == 0:
                    self.assertEqual(len(read_back(circuit, 2, entries[:many])), (many - 3) // 4)
                else:
                    self.assertRaises(BadTester, read_back, circuit, 2, entries[:many])

    def test_wrong_entries(self):
        # Two chains and three outputs.
        circuit = Circuit(("a",), (("p", "a"), ("q", "p"), ("r", "q")), (), ("a", "p", "a"))
        log = run(circuit, None, 2, (0, 0, 0), program_of(circuit, 2, [(1, 0, 1, 1), (0, 1, 0, 0)]))
        self.assertEqual([len(entry) for entry in log], [2, 2, 3, 2, 2, 3, 2, 2])
        self.assertEqual(len(read_back(circuit, 2, log)), 2)
        for k, entry in enumerate(log):
            wrong = [entry[:-1], entry + (0,), list(entry), (True,) + entry[1:], entry[:-1] + (2,),
                     entry[:-1] + (None,), ("0",) + entry[1:], (0,) * (5 - len(entry)), (ANY,) * len(entry)]
            for value in wrong + samples.STRANGE:
                with self.subTest(k=k, value=value):
                    self.assertRaises(BadTester, read_back, circuit, 2, log[:k] + [value] + log[k + 1:])
        self.assertRaises(BadTester, read_back, circuit, 2, log[1:] + log[:1])
        self.assertRaises(BadTester, read_back, circuit, 1, log)
        self.assertRaises(BadTester, read_back, circuit, 3, log)

    def test_what_is_passed_stays_and_what_is_returned_may_be_changed(self):
        circuit = Circuit(*THREE)
        kept = copy.deepcopy(vars(circuit))
        patterns = oracle.patterns_of(THREE)
        program = program_of(circuit, 2, patterns)
        log = run(circuit, None, 2, (0, 1, 1), program)
        again = list(log)
        read_back(circuit, 2, log).clear()
        self.assertEqual(log, again)
        log.clear()
        program.clear()
        self.assertEqual(patterns, oracle.patterns_of(THREE))
        self.assertEqual(run(circuit, None, 2, (0, 1, 1), program_of(circuit, 2, patterns)), again)
        self.assertEqual(vars(circuit), kept)


if __name__ == "__main__":
    unittest.main()
