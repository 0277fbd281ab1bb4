"""Tests of points 1 to 3: what is promised over the whole program."""

import ast
import copy
import inspect
import itertools
import os
import pathlib
import random
import subprocess
import sys
import unittest

import oracle
import samples
from probewright import (breaks, chain, circuits, classes, findings, generator, jobs, late, many, meaning, netlists,
                         pairs, papers, signatures, testsets, words)
from probewright.circuits import Circuit
from probewright.errors import BadPaper, ProbeError
from probewright.signatures import Press
from test_interface import FUNCTIONS
from test_papers import PARITY, papers_of

MODULES = (words, circuits, netlists, breaks, meaning, many, pairs, papers, generator, classes, testsets, chain,
           signatures, findings, late, jobs)
LEAF = ("leaf",)


def some_circuits():
    return [samples.HALF, samples.TWO_WAYS, samples.WIDE, samples.NARROW, PARITY] + [
        samples.mixed(start, 1 + start % 5, 4 + start % 9) for start in range(50, 60)]


class Overview(unittest.TestCase):
    def test_1_a_pattern_or_a_paper(self):
        for parts in (samples.HALF, samples.TWO_WAYS, samples.NARROW):
            circuit = Circuit(*parts)
            versions = samples.versions(parts)
            everything = papers_of([0, 1])
            for one, other in itertools.product(versions[::2], versions[::3]):
                word, shown = generator.answer(circuit, one, other)
                if oracle.alike(parts, one, other):
                    self.assertEqual(word, "alike")
                    self.assertIsNone(papers.check_paper(circuit, one, other, shown))
                else:
                    self.assertEqual(word, "parted")
                    for paper in everything:
                        self.assertRaises(BadPaper, papers.check_paper, circuit, one, other, paper)

    def test_2_finished_and_smaller_sets(self):
        for parts in some_circuits():
            circuit = Circuit(*parts)
            rows = samples.versions(parts)[1:]
            wanted = {broken for broken in rows if not oracle.alike(parts, None, broken)}
            partials, patterns, proofs = testsets.build(circuit, rows)
            merged = [papers.filled(circuit, partial, 1) for partial in testsets.merge(partials)]
            whole, more = testsets.complete(circuit, rows, merged)
            thinned = testsets.thin(circuit, rows, whole)
            chosen = whole[:testsets.MOST_CHOICES]
            lines = testsets.table(circuit, rows, chosen)
            few = [chosen[k] for k in testsets.smallest(lines, len(chosen))]
            with self.subTest(parts=parts):
                for found in (patterns, whole, thinned):
                    shown = {broken for broken in rows if testsets.table(circuit, [broken], found) != [()]}
                    self.assertEqual(shown, wanted)
                    self.assertIs(testsets.is_finished(circuit, rows, found, proofs), True)
                self.assertIs(testsets.is_finished(circuit, rows, whole, more), True)
                self.assertEqual(testsets.drop(circuit, rows, few)[1], testsets.drop(circuit, rows, chosen)[1])

    def test_3_the_tester(self):
        for parts in some_circuits():
            circuit = Circuit(*parts)
            size = len(parts[1])
            patterns = oracle.patterns_of(parts)
            for k, version in enumerate(samples.versions(parts)[::3]):
                count = 1 + k % max(1, size)
                log = chain.run(circuit, version, count, (1,) * size, chain.program_of(circuit, count, patterns))
                self.assertEqual(tuple(chain.read_back(circuit, count, log)), oracle.responses(parts, version))

    def test_4_what_a_signature_hides(self):
        for parts in some_circuits():
            circuit = Circuit(*parts)
            rows = samples.versions(parts)[1:]
            patterns = oracle.patterns_of(parts)
            press = Press(2, (0, 1))
            right = oracle.responses(parts, None)
            signature = press.signature(list(right))
            expected = [broken for broken in rows if oracle.responses(parts, broken) != right
                        and press.signature(list(oracle.responses(parts, broken))) == signature]
            self.assertEqual(signatures.lost(circuit, rows, patterns, press), expected)
            for broken in rows:
                told = signatures.hidden(press, list(right), list(oracle.responses(parts, broken)))
                self.assertIs(told, broken in expected)
                # The sum of the words is blind exactly if the signature is the same.
                total = signatures.added(
                    [press.fold(row) for row in right], [press.fold(row) for row in oracle.responses(parts, broken)])
                blind = press.press(total) == (0, 0)
                self.assertEqual(blind, told or oracle.responses(parts, broken) == right)

    def test_5_what_responses_allow(self):
        for parts in some_circuits():
            circuit = Circuit(*parts)
            versions = samples.versions(parts)
            patterns = oracle.patterns_of(parts)
            for version in versions[::5]:
                rows = list(oracle.responses(parts, version))
                expected = [other for other in versions if oracle.alike(parts, other, version)]
                self.assertEqual(findings.allowed(circuit, versions, patterns, rows), expected)

    def test_6_many_patterns_at_once(self):
        for parts in some_circuits():
            circuit = Circuit(*parts)
            patterns = oracle.patterns_of(parts)[::-1] * 2
            for version in samples.versions(parts)[::4]:
                self.assertEqual(
                    many.responses(circuit, version, patterns),
                    [meaning.response(circuit, version, pattern) for pattern in patterns])
                self.assertEqual(
                    many.parting(circuit, None, version, patterns),
                    [k for k, pattern in enumerate(patterns) if meaning.parted(circuit, None, version, pattern)])


def calls():
    """Return a call of each function that takes a list or a circuit, with its arguments."""
    parts = samples.WIDE
    circuit = Circuit(*parts)
    broken = samples.versions(parts)[1:]
    versions = [None] + broken[::7]
    patterns = oracle.patterns_of(parts)[::3]
    rows = many.responses(circuit, None, patterns)
    press = Press(3, (1, 2))
    finding = classes.exact_classes(circuit, versions)
    program = chain.program_of(circuit, 1, patterns)
    log = chain.run(circuit, None, 1, (1,), program)
    partials, found, proofs = testsets.build(circuit, broken)
    partial = (None, 1, None, 0)
    return [
        (netlists.text_of, "c", circuit),
        (Circuit, list(parts[0]), list(parts[1]), list(parts[2]), list(parts[3])),
        (breaks.is_break, circuit, broken[0]), (breaks.check_version, circuit, broken[-1]),
        (breaks.stuck_breaks, circuit), (breaks.shorts, circuit),
        (meaning.values, circuit, broken[-1], patterns[1]), (meaning.response, circuit, broken[0], patterns[1]),
        (meaning.parted, circuit, None, broken[3], patterns[2]), (meaning.check_pattern, circuit, patterns[0]),
        (meaning.gate_value, "nand", [0, 1, 1]),
        (many.words_of, circuit, broken[-1], patterns), (many.responses, circuit, broken[5], patterns),
        (many.parting, circuit, None, broken[5], patterns),
        (pairs.gate_mark, "xor", [9, 6, 15]), (pairs.marks_of, circuit, None, broken[-1], partial),
        (pairs.sink_marks, circuit, None, broken[0], partial), (pairs.check_partial, circuit, partial),
        (papers.check_paper, circuit, None, *proofs[0]),
        (papers.size_of, ("case", 0, LEAF, LEAF)), (papers.empty_partial, circuit),
        (papers.with_bit, partial, 0, 1), (papers.filled, circuit, partial, 1),
        (papers.agree, partial, partial), (papers.together, partial, partial),
        (generator.answer, circuit, broken[-1], broken[0]),
        (classes.uses, circuit), (classes.joined_classes, circuit), (classes.representatives, circuit),
        (classes.exact_classes, circuit, versions), (classes.check_classes, circuit, versions, finding),
        (testsets.table, circuit, broken, patterns), (testsets.drop, circuit, broken, patterns),
        (testsets.build, circuit, broken), (testsets.complete, circuit, broken, patterns),
        (testsets.is_finished, circuit, broken, found, proofs), (testsets.merge, partials),
        (testsets.thin, circuit, broken, patterns),
        (testsets.smallest, testsets.table(circuit, broken, patterns), len(patterns)),
        (chain.chains, circuit, 1), (chain.is_step, circuit, 1, ("look", (0, 1, 1))),
        (chain.run, circuit, None, 1, (0,), program), (chain.program_of, circuit, 1, patterns),
        (chain.read_back, circuit, 1, log),
        (press.press, [(0, 1, 1), (1, 1, 0)]), (press.signature, rows), (press.blind, 3), (press.fold, (0, 1, 1, 1)),
        (press.step, (0, 1, 1), (1, 1, 1)),
        (signatures.added, [(0, 1)], [(1, 1)]), (signatures.hidden, press, rows, rows[::-1]),
        (signatures.lost, circuit, broken, patterns, press),
        (findings.allowed, circuit, versions, patterns, rows), (findings.groups, circuit, versions, patterns),
        (findings.next_pattern, circuit, versions), (findings.Finder, circuit, versions),
        (late.is_late, circuit, ("late", "a", 1)), (late.late_response, circuit, ("late", "a", 1), *patterns[:2]),
        (late.shows_late, circuit, ("late", "x", 1), *patterns[:2]), (late.reach, circuit, "z", 1, partial),
        (late.check_never, circuit, "b", 0, partial, LEAF), (late.late_answer, circuit, ("late", "z", 0)),
        (late.check_late_paper, Circuit(*samples.TWO_WAYS), ("late", "x", 0), ("never", ("case", 0, LEAF, LEAF))),
        (jobs.version_text, broken[-1]), (jobs.bits_text, partial),
    ]


def seen(value):
    """Return what can be compared of a value, objects of the program included."""
    if isinstance(value, (list, tuple)):
        return [type(value), [seen(item) for item in value]]
    if hasattr(value, "__dict__") and type(value).__module__.startswith("probewright"):
        return [type(value), {name: seen(item) for name, item in vars(value).items()}]
    return value


class Arguments(unittest.TestCase):
    def test_no_function_modifies_them(self):
        for function, *arguments in calls():
            owner = getattr(function, "__self__", None)
            before = copy.deepcopy([seen(arguments), seen(owner)])
            first = function(*arguments)
            with self.subTest(function=function.__name__):
                self.assertEqual([seen(arguments), seen(owner)], before)
                # The same once more: nothing is kept from one call to the next.
                self.assertEqual(seen(function(*arguments)), seen(first))

    def test_returned_lists_and_dicts_may_be_changed(self):
        for function, *arguments in calls():
            first = function(*arguments)
            kept = copy.deepcopy(seen(first))
            for value in first if isinstance(first, tuple) else (first,):
                if isinstance(value, (list, dict)):
                    value.clear()
            with self.subTest(function=function.__name__):
                self.assertEqual(seen(function(*arguments)), kept)

    def test_every_function_of_the_interface_is_called_here(self):
        called = {function.__name__ for function, *_ in calls()}
        # These take nothing that could be changed.
        without_lists = {"parse", "is_integer", "is_bit", "is_name", "are_bits", "run_job"}
        names = {row.partition("(")[0] for rows in FUNCTIONS.values() for row in rows}
        self.assertEqual(names - called - without_lists, set())


class Surroundings(unittest.TestCase):
    def test_all_errors_are_of_one_kind(self):
        circuit = Circuit(*samples.HALF)
        for call in (
                lambda: netlists.parse(""), lambda: Circuit(("A",), (), (), ()), lambda: jobs.run_job(""),
                lambda: generator.answer(circuit, 7, None), lambda: meaning.response(circuit, None, 7),
                lambda: papers.check_paper(circuit, None, None, 7), lambda: chain.chains(circuit, 0),
                lambda: Press(0, ())):
            self.assertRaises(ProbeError, call)

    def test_modules_are_loaded_without_anything_else(self):
        # What a fresh Python loads for the program besides its own modules.
        root = pathlib.Path(words.__file__).parent.parent
        names = ", ".join(module.__name__ for module in MODULES)
        script = ("import sys; before = set(sys.modules); import " + names + "; "
                  "print(sorted(name.split('.')[0] for name in set(sys.modules) - before))")
        told = subprocess.run(
            [sys.executable, "-B", "-c", script], cwd=root, capture_output=True, text=True, check=True).stdout
        self.assertLessEqual(set(ast.literal_eval(told)), {"probewright", "itertools", "math", "heapq", "_heapq", "collections"})

    def test_nothing_depends_on_random_numbers(self):
        circuit = Circuit(*samples.TEN)
        state = random.getstate()
        first = testsets.build(circuit, breaks.stuck_breaks(circuit))
        self.assertEqual(random.getstate(), state)
        self.assertEqual(testsets.build(circuit, breaks.stuck_breaks(circuit)), first)

    def test_the_same_with_other_hashes(self):
        root = pathlib.Path(words.__file__).parent.parent
        script = ("from probewright.jobs import run_job; "
                  "print(run_job('circuit c\\ninput a b d\\ngate n not a\\ngate x and a n b\\ngate y or x b\\n"
                  "gate z xor y d\\noutput y z\\nask tests\\nask allowed 010=11\\nask late z 1\\n'))")
        told = set()
        for seed in ("0", "1", "77"):
            told.add(subprocess.run(
                [sys.executable, "-B", "-c", script], cwd=root, capture_output=True, text=True, check=True,
                env={**os.environ, "PYTHONHASHSEED": seed}).stdout)
        self.assertEqual(len(told), 1)
        self.assertIn("tests", told.pop())

    def test_every_module_has_a_docstring(self):
        for module in MODULES:
            self.assertTrue(inspect.getdoc(module))


if __name__ == "__main__":
    unittest.main()
