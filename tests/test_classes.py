"""Tests of points 400 to 407: joined and exact classes."""

import copy
import itertools
import unittest
from unittest.mock import ANY

import oracle
import samples
from probewright.breaks import stuck_breaks
from probewright.circuits import Circuit
from probewright.classes import check_classes, exact_classes, joined_classes, representatives, uses
from probewright.errors import BadBreak, BadPaper
from probewright.generator import answer
from probewright.papers import check_paper
from test_meaning import NO_VERSIONS

LEAF = ("leaf",)


class Uses(unittest.TestCase):
    def test_by_hand(self):
        gates = (("x", "and", ("a", "b", "a")), ("y", "xor", ("x", "x")), ("k", "low", ()), ("z", "not", ("a",)))
        circuit = Circuit(("a", "b", "c"), (("p", "y"), ("q", "y"), ("r", "p")), gates, ("y", "b", "y"))
        self.assertEqual(uses(circuit), {
            "a": [("x", 0), ("x", 2), ("z", 0)],
            "b": [("x", 1), None],
            "c": [],
            "p": [None],
            "q": [],
            "r": [],
            "x": [("y", 0), ("y", 1)],
            "y": [None, None, None, None],
            "k": [],
            "z": [],
        })

    def test_the_order_of_the_gates_counts(self):
        gates = (("y", "buf", ("x",)), ("x", "or", ("a", "a")), ("w", "and", ("a", "x")))
        self.assertEqual(uses(Circuit(("a",), (), gates, ("a", "w"))), {
            "a": [("x", 0), ("x", 1), ("w", 0), None],
            "y": [],
            "x": [("y", 0), ("w", 1)],
            "w": [None],
        })

    def test_every_use_of_the_samples(self):
        for parts in samples.ALL:
            circuit = Circuit(*parts)
            found = uses(circuit)
            self.assertEqual(list(found), oracle.lines_of(parts))
            for line, row in found.items():
                pins = [(gate, k) for gate, _, at_pins in parts[2] for k, pin in enumerate(at_pins) if pin == line]
                self.assertEqual(row, pins + [None] * oracle.sinks_of(parts).count(line))

    def test_what_is_returned_may_be_changed(self):
        circuit = Circuit(*samples.TEN)
        kept = uses(circuit)
        found = uses(circuit)
        for row in found.values():
            row.append(7)
        found.clear()
        self.assertEqual(uses(circuit), kept)


def joined(parts):
    """Return all joined pairs, rule by rule as point 402 tells them."""
    pairs = []
    lines = oracle.lines_of(parts)
    for line, kind, pins in parts[2]:
        for index in range(len(pins)):
            if kind in ("and", "nand", "or", "nor"):
                bit = {"and": 0, "nand": 0, "or": 1, "nor": 1}[kind]
                then = {"and": 0, "nand": 1, "or": 1, "nor": 0}[kind]
                pairs.append((("pin", line, index, bit), ("stem", line, then)))
        if len(pins) == 1:
            pairs.extend((("pin", line, 0, bit), ("stem", line, oracle.VALUE[kind]([bit]))) for bit in (0, 1))
        if kind in ("low", "high"):
            pairs.append((("stem", line, 0 if kind == "low" else 1), None))
    for line in lines:
        at_pins = [(gate, k) for gate, _, pins in parts[2] for k, pin in enumerate(pins) if pin == line]
        many = len(at_pins) + oracle.sinks_of(parts).count(line)
        for bit in (0, 1):
            if many == 0:
                pairs.append((("stem", line, bit), None))
            if many == 1 and at_pins:
                pairs.append((("stem", line, bit), ("pin", *at_pins[0], bit)))
    return pairs


def classes_of(versions, pairs):
    """Join sets of versions one pair after another."""
    sets = [{version} for version in versions]
    for one, other in pairs:
        with_one = next(members for members in sets if one in members)
        with_other = next(members for members in sets if other in members)
        if with_one is not with_other:
            sets.remove(with_other)
            with_one.update(with_other)
    found = [[version for version in versions if version in members] for members in sets]
    return sorted(found, key=lambda members: versions.index(members[0]))


class Joined(unittest.TestCase):
    def together(self, gates, outputs, *members):
        """Check which class holds the first of some versions of a circuit of `a`, `b` and gates."""
        circuit = Circuit(("a", "b"), (), gates, outputs)
        found = joined_classes(circuit)
        self.assertIn(list(members), found)

    def test_the_examples_of_the_document(self):
        circuit = Circuit(("a", "b"), (), (("z", "and", ("a", "b")),), ("z",))
        self.assertEqual(
            joined_classes(circuit)[1],
            [("stem", "a", 0), ("stem", "b", 0), ("stem", "z", 0), ("pin", "z", 0, 0), ("pin", "z", 1, 0)])
        self.assertEqual(
            representatives(circuit), [("stem", "a", 0), ("stem", "a", 1), ("stem", "b", 1), ("stem", "z", 1)])

    def test_rule_1(self):
        # The sources are outputs, so that their own breaks are apart.
        for kind, bit, then in (("and", 0, 0), ("nand", 0, 1), ("or", 1, 1), ("nor", 1, 0)):
            with self.subTest(kind=kind):
                circuit = Circuit(("a", "b"), (), (("z", kind, ("a", "b", "a")),), ("a", "b", "z"))
                pins = [("pin", "z", index, bit) for index in range(3)]
                others = [[version] for version in stuck_breaks(circuit)
                          if version not in pins and version != ("stem", "z", then)]
                found = joined_classes(circuit)
                self.assertEqual(found[0], [None])
                self.assertIn([("stem", "z", then), *pins], found)
                self.assertEqual(
                    sorted(row for row in found[1:] if len(row) == 1), sorted(others))
                self.assertEqual(len(found), len(others) + 2)

    def test_rule_1_is_not_for_xor(self):
        for kind in ("xor", "xnor"):
            circuit = Circuit(("a", "b"), (), (("z", kind, ("a", "b")),), ("a", "b", "z"))
            self.assertEqual(joined_classes(circuit), [[version] for version in [None] + stuck_breaks(circuit)])

    def test_rule_2(self):
        for kind, turned in (("and", 0), ("or", 0), ("xor", 0), ("buf", 0), ("nand", 1), ("nor", 1), ("xnor", 1),
                             ("not", 1)):
            with self.subTest(kind=kind):
                circuit = Circuit(("a",), (), (("z", kind, ("a",)),), ("a", "z"))
                self.assertEqual(joined_classes(circuit), [
                    [None], [("stem", "a", 0)], [("stem", "a", 1)],
                    [("stem", "z", 0), ("pin", "z", 0, turned)], [("stem", "z", 1), ("pin", "z", 0, 1 - turned)]])

    def test_rule_3(self):
        # `a` has just one use, `b` two pins, `c` a pin and an output.
        gates = (("x", "xor", ("a", "b", "c")), ("y", "xor", ("b", "x")))
        circuit = Circuit(("a", "b", "c"), (), gates, ("c", "y"))
        pairs = [[("stem", "a", bit), ("pin", "x", 0, bit)] for bit in (0, 1)]
        pairs += [[("stem", "x", bit), ("pin", "y", 1, bit)] for bit in (0, 1)]
        found = joined_classes(circuit)
        self.assertEqual([row for row in found if len(row) > 1], pairs)
        self.assertEqual(len(found), 1 + len(stuck_breaks(circuit)) - 4)

    def test_rule_3_is_not_for_sinks(self):
        # The only use of `a` is an output, that of `y` a register that takes it.
        parts = (("a", "b"), (("p", "y"),), (("y", "xor", ("b", "p")),), ("a",))
        found = joined_classes(Circuit(*parts))
        self.assertIn([("stem", "a", 0)], found)
        self.assertIn([("stem", "y", 1)], found)
        self.assertIn([("stem", "b", 0), ("pin", "y", 0, 0)], found)
        self.assertIn([("stem", "p", 1), ("pin", "y", 1, 1)], found)

    def test_rule_3_is_not_for_two_pins_of_one_gate(self):
        circuit = Circuit(("a",), (), (("z", "xor", ("a", "a")),), ("z",))
        self.assertEqual(joined_classes(circuit), [[version] for version in [None] + stuck_breaks(circuit)])

    def test_rule_4(self):
        circuit = Circuit(("a", "b"), (("p", "b"),), (("z", "xor", ("b", "b")),), ("b",))
        self.assertEqual(joined_classes(circuit)[0], [
            None, ("stem", "a", 0), ("stem", "a", 1), ("stem", "p", 0), ("stem", "p", 1),
            ("stem", "z", 0), ("stem", "z", 1)])
        self.assertEqual(len(joined_classes(circuit)), 1 + 2 + 4)

    def test_rule_5(self):
        circuit = Circuit((), (), (("l", "low", ()), ("h", "high", ())), ("l", "h"))
        self.assertEqual(joined_classes(circuit), [
            [None, ("stem", "l", 0), ("stem", "h", 1)], [("stem", "l", 1)], [("stem", "h", 0)]])
        self.assertEqual(representatives(circuit), [("stem", "l", 1), ("stem", "h", 0)])

    def test_a_chain_of_pairs(self):
        gates = (("k", "high", ()), ("n", "not", ("k",)), ("z", "or", ("n", "a")))
        circuit = Circuit(("a",), (), gates, ("z",))
        self.assertEqual(joined_classes(circuit)[0], [
            None, ("stem", "k", 1), ("stem", "n", 0), ("pin", "n", 0, 1), ("pin", "z", 0, 0)])

    def test_no_lines(self):
        self.assertEqual(joined_classes(Circuit((), (), (), ())), [[None]])
        self.assertEqual(representatives(Circuit((), (), (), ())), [])

    def test_all_of_the_samples(self):
        circuits = list(samples.ALL) + [samples.mixed(start, 1 + start % 5, 3 + start % 12) for start in range(40)]
        for parts in circuits:
            with self.subTest(parts=parts):
                circuit = Circuit(*parts)
                versions = [None] + samples.stems(parts) + samples.pins(parts)
                found = joined_classes(circuit)
                self.assertEqual(found, classes_of(versions, joined(parts)))
                self.assertEqual(representatives(circuit), [members[0] for members in found[1:]])
                self.assertIsNone(found[0][0])

    def test_the_members_are_alike(self):
        circuits = list(samples.ALL) + [samples.mixed(start, 1 + start % 4, 3 + start % 9) for start in range(40)]
        for parts in circuits:
            for members in joined_classes(Circuit(*parts)):
                for version in members[1:]:
                    with self.subTest(parts=parts, one=members[0], other=version):
                        self.assertTrue(oracle.alike(parts, members[0], version))

    def test_patterns_for_the_representatives_are_enough(self):
        for start in range(20):
            parts = samples.mixed(start, 1 + start % 4, 3 + start % 9)
            circuit = Circuit(*parts)
            patterns = set()
            for version in representatives(circuit):
                patterns.update(oracle.parting(parts, None, version)[:1])
            for version in stuck_breaks(circuit):
                apart = oracle.parting(parts, None, version)
                with self.subTest(parts=parts, version=version):
                    self.assertEqual(bool(apart), bool(patterns.intersection(apart)))

    def test_what_is_returned_may_be_changed(self):
        circuit = Circuit(*samples.TEN)
        kept = copy.deepcopy(vars(circuit))
        found = joined_classes(circuit)
        again = joined_classes(circuit)
        for members in again:
            members.clear()
        again.append([])
        representatives(circuit).clear()
        self.assertEqual(joined_classes(circuit), found)
        self.assertEqual(vars(circuit), kept)


def exact(parts, versions):
    """Return the classes of versions by their responses to all patterns."""
    found = {}
    for version in versions:
        found.setdefault(oracle.responses(parts, version), []).append(version)
    return tuple(tuple(members) for members in found.values())


class Exact(unittest.TestCase):
    def follows(self, parts, versions):
        circuit = Circuit(*parts)
        kept = list(versions)
        with self.subTest(parts=parts, versions=versions):
            finding = exact_classes(circuit, versions)
            self.assertEqual(versions, kept)
            self.assertIs(type(finding), tuple)
            classes, papers, patterns = finding
            self.assertEqual(classes, exact(parts, versions))
            papers_of, patterns_of = [], []
            firsts = []
            for version in versions:
                entries = []
                for first in firsts:
                    word, shown = answer(circuit, first, version)
                    if word == "alike":
                        papers_of.append((first, version, shown))
                        break
                    entries.append((first, version, shown))
                else:
                    firsts.append(version)
                    patterns_of.extend(entries)
            self.assertEqual(papers, tuple(papers_of))
            self.assertEqual(patterns, tuple(patterns_of))
            self.assertIsNone(check_classes(circuit, versions, finding))

    def test_all_versions_of_the_samples(self):
        for parts in (samples.HALF, samples.TWO_WAYS, samples.NARROW, samples.ONLY_CONSTANTS, samples.NOTHING):
            versions = samples.versions(parts)
            self.follows(parts, versions)
            self.follows(parts, versions[::-1])
            self.follows(parts, versions[1::2] + versions[:1] + versions[2::2])

    def test_mixed_circuits(self):
        for start in range(12):
            parts = samples.mixed(start, 1 + start % 4, 3 + start % 6)
            versions = samples.versions(parts)
            self.follows(parts, versions[::2])

    def test_few_versions(self):
        for parts in samples.ALL:
            self.follows(parts, [])
            self.follows(parts, [None])
        self.follows(samples.HALF, [("stem", "a", 0)])
        self.follows(samples.HALF, [("short", "a", "b", "or"), ("short", "a", "b", "and")])
        circuit = Circuit(*samples.HALF)
        self.assertEqual(exact_classes(circuit, []), ((), (), ()))
        self.assertEqual(exact_classes(circuit, [None]), (((None,),), (), ()))

    def test_by_hand(self):
        circuit = Circuit(*samples.HALF)
        versions = [("stem", "c", 1), None, ("pin", "c", 1, 0), ("stem", "c", 0)]
        classes, papers, patterns = exact_classes(circuit, versions)
        self.assertEqual(classes, ((("stem", "c", 1),), (None,), (("pin", "c", 1, 0), ("stem", "c", 0))))
        self.assertEqual(papers, ((("pin", "c", 1, 0), ("stem", "c", 0), LEAF),))
        self.assertEqual(
            [entry[:2] for entry in patterns],
            [(("stem", "c", 1), None), (("stem", "c", 1), ("pin", "c", 1, 0)), (None, ("pin", "c", 1, 0))])

    def test_what_is_passed_stays(self):
        circuit = Circuit(*samples.HALF)
        kept = copy.deepcopy(vars(circuit))
        versions = samples.versions(samples.HALF)
        exact_classes(circuit, versions)
        exact_classes(circuit, tuple(versions))
        self.assertEqual(versions, samples.versions(samples.HALF))
        self.assertEqual(vars(circuit), kept)


class Checked(unittest.TestCase):
    def setUp(self):
        self.parts = samples.TWO_WAYS
        self.circuit = Circuit(*self.parts)
        self.versions = [
            None, ("stem", "x", 0), ("stem", "y", 1), ("stem", "b", 0), ("stem", "b", 1), ("stem", "y", 0),
            ("short", "a", "b", "and"), ("stem", "a", 0), ("pin", "y", 1, 1)]
        self.finding = exact_classes(self.circuit, self.versions)

    def takes(self, finding, versions=None):
        self.assertIsNone(check_classes(self.circuit, versions or self.versions, finding))

    def refuses(self, finding, versions=None):
        with self.subTest(finding=finding):
            with self.assertRaises(BadPaper):
                check_classes(self.circuit, versions or self.versions, finding)


class RightFindings(Checked):
    def test_of_the_function(self):
        classes, papers, patterns = self.finding
        self.assertEqual(classes, (
            (None, ("stem", "x", 0), ("stem", "a", 0)),
            (("stem", "y", 1), ("stem", "b", 1), ("pin", "y", 1, 1)),
            (("stem", "b", 0), ("stem", "y", 0)),
            (("short", "a", "b", "and"),)))
        self.assertEqual((len(papers), len(patterns)), (5, 6))
        self.takes(self.finding)

    def test_in_another_order(self):
        classes, papers, patterns = self.finding
        self.takes((classes, papers[::-1], patterns))
        self.takes((classes, papers, patterns[::-1]))
        self.takes((classes, papers[2:] + papers[:2], patterns[3:] + patterns[:3]))
        self.takes(self.finding, self.versions[::-1])
        self.takes(self.finding, tuple(self.versions))

    def made(self, classes):
        """Return a finding for classes in any order and with any first members."""
        papers = tuple(
            (members[0], version, answer(self.circuit, members[0], version)[1])
            for members in classes for version in members[1:])
        patterns = tuple(
            (one[0], other[0], answer(self.circuit, one[0], other[0])[1])
            for one, other in itertools.combinations(classes, 2))
        return (tuple(classes), papers, patterns)

    def test_with_other_first_members_and_classes_in_another_order(self):
        classes = self.finding[0]
        self.takes(self.made([members[::-1] for members in classes]))
        for order in itertools.permutations(classes):
            self.takes(self.made(list(order)))

    def test_with_other_papers_and_patterns(self):
        classes, papers, patterns = self.finding
        first, version, paper = papers[0]
        self.assertEqual((first, version), (None, ("stem", "x", 0)))
        more = ("case", 1, ("case", 0, LEAF, LEAF), ("case", 0, LEAF, LEAF))
        self.takes((classes, ((first, version, more),) + papers[1:], patterns))
        for k, (one, other, _) in enumerate(patterns):
            for pattern in oracle.parting(self.parts, one, other):
                changed = (one, other, pattern)
                self.takes((classes, papers, patterns[:k] + (changed,) + patterns[k + 1:]))
        # Only the pattern that fills it with 0 has to part the two versions.
        k, entry = next((k, entry) for k, entry in enumerate(patterns) if entry[:2] == (None, ("stem", "y", 1)))
        self.takes((classes, papers, patterns[:k] + (entry[:2] + ((None, None),),) + patterns[k + 1:]))

    def test_nothing(self):
        for parts in samples.ALL:
            self.assertIsNone(check_classes(Circuit(*parts), [], ((), (), ())))
            self.assertIsNone(check_classes(Circuit(*parts), [None], (((None,),), (), ())))

    def test_what_is_passed_stays(self):
        kept = copy.deepcopy((vars(self.circuit), self.versions, self.finding))
        self.takes(self.finding)
        self.assertEqual((vars(self.circuit), self.versions, self.finding), kept)


class WrongFindings(Checked):
    def test_classes(self):
        classes, papers, patterns = self.finding
        alone = len(classes) - 1
        for k, members in enumerate(classes):
            before, behind = classes[:k], classes[k + 1:]
            other = classes[(k + 1) % len(classes)]
            wrong = [
                before + (members[:-1],) + behind,
                before + (members + members[-1:],) + behind,
                before + (members + other[-1:],) + behind,
                before + (members[:-1] + other[-1:],) + behind,
                before + (members + (("stem", "n", 0),),) + behind,
                before + (members[:-1] + (("stem", "n", 0),),) + behind,
                before + ((), members) + behind,
                before + ((),) + behind,
                before + behind,
                before + (members, members) + behind,
                before + (members[::-1],) + behind if len(members) > 1 else (),
            ]
            if k != alone:
                wrong.append(before + (members[:1], members[1:]) + behind)
                wrong.append(before + (members + classes[k + 1],) + classes[k + 2:])
            for changed in wrong:
                self.refuses((changed, papers, patterns))
        self.refuses((classes + ((),), papers, patterns))
        self.refuses((classes[::-1], papers, patterns))
        self.refuses(((), papers, patterns))
        self.refuses(((), (), ()))

    def test_a_version_moved_to_another_class_with_the_papers_that_are_there(self):
        classes, papers, patterns = self.finding
        moved = ("stem", "a", 0)
        changed = tuple(tuple(version for version in members if version != moved) for members in classes)
        changed = changed[:-1] + (changed[-1] + (moved,),)
        for paper in (LEAF, ("case", 0, LEAF, LEAF), ("case", 0, ("case", 1, LEAF, LEAF), ("case", 1, LEAF, LEAF))):
            entries = tuple(entry for entry in papers if entry[1] != moved)
            self.refuses((changed, entries + ((changed[-1][0], moved, paper),), patterns))

    def test_two_classes_joined_and_one_divided_with_all_that_they_need(self):
        classes, papers, patterns = self.finding
        joined = (classes[0] + classes[1],) + classes[2:]
        left = tuple(entry for entry in patterns if ("stem", "y", 1) not in entry[:2])
        for paper in (LEAF, ("case", 0, LEAF, LEAF)):
            more = tuple((None, version, paper) for version in classes[1])
            entries = tuple(entry for entry in papers if entry[0] != ("stem", "y", 1))
            self.refuses((joined, entries + more, left))
        divided = (classes[0][:2], classes[0][2:]) + classes[1:]
        entries = tuple(entry for entry in papers if entry[1] != ("stem", "a", 0))
        firsts = [members[0] for members in classes[1:]]
        for partial in ((0, 0), (None, None), (1, 1)):
            more = tuple(
                (("stem", "a", 0), first, next(entry for entry in patterns if entry[:2] == (None, first))[2])
                for first in firsts)
            self.refuses((divided, entries, patterns + more + ((None, ("stem", "a", 0), partial),)))

    def test_papers_and_patterns_left_out_or_doubled(self):
        classes, papers, patterns = self.finding
        for k, entry in enumerate(papers):
            self.refuses((classes, papers[:k] + papers[k + 1:], patterns))
            self.refuses((classes, papers + (entry,), patterns))
            self.refuses((classes, papers[:k] + (papers[k - 1],) + papers[k + 1:], patterns))
        for k, entry in enumerate(patterns):
            self.refuses((classes, papers, patterns[:k] + patterns[k + 1:]))
            self.refuses((classes, papers, patterns + (entry,)))
            self.refuses((classes, papers, patterns[:k] + (patterns[k - 1],) + patterns[k + 1:]))
        self.refuses((classes, (), patterns))
        self.refuses((classes, papers, ()))
        self.refuses((classes, patterns, papers))

    def test_papers_for_other_versions(self):
        classes, papers, patterns = self.finding
        for k, (first, version, paper) in enumerate(papers):
            others = [v for v in self.versions + [("stem", "n", 1), ("pin", "x", 0, 0), ANY, True] if v != version]
            entries = [(first, other, paper) for other in others]
            entries += [(other, version, paper) for other in self.versions + [("stem", "n", 1), ANY] if other != first]
            # ANY equals everything, and is no version all the same.
            entries += [(ANY, version, paper), (first, ANY, paper), (version, first, paper), (first, first, paper),
                        (version, version, paper), (None, None, LEAF), (first, version), (first, version, paper, 0)]
            for entry in entries:
                self.refuses((classes, papers[:k] + (entry,) + papers[k + 1:], patterns))
        # More papers than needed, for versions that are alike.
        for entry in ((None, None, LEAF), (("stem", "y", 1), ("stem", "y", 1), LEAF),
                      (("stem", "x", 0), ("stem", "a", 0), ("case", 0, LEAF, LEAF))):
            self.assertIsNone(check_paper(self.circuit, *entry))
            self.refuses((classes, papers + (entry,), patterns))

    def test_wrong_papers(self):
        classes, papers, patterns = self.finding
        for k, (first, version, paper) in enumerate(papers):
            wrong = [("case", 2, LEAF, LEAF), ("case", 0, LEAF), ["leaf"], None, ANY, "leaf", 0, (), ((),)]
            if paper != LEAF:
                wrong.extend([LEAF, ("case", 0, LEAF, ["leaf"]), list(paper)])
            for changed in wrong:
                self.refuses((classes, papers[:k] + ((first, version, changed),) + papers[k + 1:], patterns))
        self.assertTrue(any(entry[2] != LEAF for entry in papers))

    def test_patterns_for_other_versions(self):
        classes, papers, patterns = self.finding
        for k, (first, other, partial) in enumerate(patterns):
            entries = [(other, first, partial), (first, first, partial), (other, other, partial),
                       (ANY, other, partial), (first, ANY, partial), (first, other), (first, other, partial, 0),
                       (first, ("stem", "n", 0), partial), (("stem", "x", 0), other, partial),
                       (first, ("pin", "y", 1, 1), partial)]
            for entry in entries:
                self.refuses((classes, papers, patterns[:k] + (entry,) + patterns[k + 1:]))

    def test_partial_patterns_that_do_not_part(self):
        classes, papers, patterns = self.finding
        for k, (first, other, _) in enumerate(patterns):
            apart = oracle.parting(self.parts, first, other)
            for partial in oracle.partials_of(self.parts):
                entry = (first, other, partial)
                changed = (classes, papers, patterns[:k] + (entry,) + patterns[k + 1:])
                if tuple(item or 0 for item in partial) in apart:
                    self.takes(changed)
                else:
                    self.refuses(changed)

    def test_values_that_are_no_partial_patterns(self):
        classes, papers, patterns = self.finding
        wrong = [(), (0,), (0, 0, 0), [0, 0], (True, 0), (False, None), (2, 0), ("0", "1"), "01", None, 0, ANY,
                 (ANY, ANY), (None, "-"), ((0, 0),), {0: 0, 1: 0}]
        for k, (first, other, _) in enumerate(patterns):
            for partial in wrong:
                self.refuses((classes, papers, patterns[:k] + ((first, other, partial),) + patterns[k + 1:]))

    def test_other_kinds_at_every_depth(self):
        # The finding, its parts, their classes and entries, and the items of these.
        values = changed_below(self.finding, 3)
        self.assertGreater(len(values), 1000)
        for value in values:
            self.refuses(value)

    def test_the_finding_of_another_list(self):
        self.refuses(exact_classes(self.circuit, self.versions[:-1]))
        self.refuses(exact_classes(self.circuit, self.versions + [("stem", "n", 0)]))
        self.refuses(exact_classes(self.circuit, []))
        # As many versions, one of which is another one.
        for k in range(len(self.versions)):
            for other in (("stem", "n", 0), ("stem", "n", 1), ("pin", "x", 0, 0)):
                self.refuses(exact_classes(self.circuit, self.versions[:k] + [other] + self.versions[k + 1:]))
        self.refuses(self.finding, self.versions[:-1])
        self.refuses(self.finding, self.versions + [("stem", "n", 0)])
        self.refuses((), [None])
        self.refuses(((), (), ()), [None])
        self.refuses(((("a",),), (), ()), [None])

    def test_versions_that_are_equal_to_others_by_python_only(self):
        self.refuses((((True,),), (), ()), [None])
        self.refuses((((("stem", "b", True),),), (), ()), [("stem", "b", 1)])
        self.refuses((((("stem", "b", 1.0),),), (), ()), [("stem", "b", 1)])
        self.refuses((((["stem", "b", 1],),), (), ()), [("stem", "b", 1)])


def changed_below(value, depth):
    """Return all values that have another one in just one place of nested tuples, down to a depth."""
    found = [list(value)] if isinstance(value, tuple) else []
    found.extend(other for other in samples.STRANGE if other is ANY or other != value)
    if depth > 0:
        for k, item in enumerate(value):
            found.extend(value[:k] + (other,) + value[k + 1:] for other in changed_below(item, depth - 1))
    return found


class WrongVersions(unittest.TestCase):
    def test_values_that_are_none(self):
        circuit = Circuit(*samples.HALF)
        for version in NO_VERSIONS + [value for value in samples.STRANGE if value is not None]:
            for versions in ([version], [None, version], [version, version], [("stem", "a", 0), version, None]):
                with self.subTest(versions=versions):
                    self.assertRaises(BadBreak, exact_classes, circuit, versions)
                    for finding in (((), (), ()), None, (((None,),), (), ())):
                        self.assertRaises(BadBreak, check_classes, circuit, versions, finding)

    def test_a_version_twice(self):
        circuit = Circuit(*samples.HALF)
        short = ("short", "a", "b", "and")
        for versions in ([None, None], [short, None, short], [("stem", "a", 0), ("stem", "b", 0), ("stem", "a", 0)],
                         [None, ("stem", "a", 0), None]):
            with self.subTest(versions=versions):
                self.assertRaises(BadBreak, exact_classes, circuit, versions)
                for finding in (((), (), ()), None, 7, (tuple((version,) for version in versions), (), ())):
                    self.assertRaises(BadBreak, check_classes, circuit, versions, finding)


if __name__ == "__main__":
    unittest.main()
