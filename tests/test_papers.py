"""Tests of point 304: papers and what is done with partial patterns."""

import itertools
import unittest
from unittest.mock import ANY

import oracle
import samples
from probewright.circuits import Circuit
from probewright.errors import BadBreak, BadPaper, BadPattern
from probewright.papers import agree, check_paper, empty_partial, filled, size_of, together, with_bit
from test_meaning import NO_VERSIONS
from test_pairs import NO_PARTIALS

LEAF = ("leaf",)

# The parity of three inputs, once from the left and once from the right: that
# the last gate is always 0 takes cases of all sources.
PARITY = (
    ("a", "b", "c"),
    (),
    (("l1", "xor", ("a", "b")), ("l2", "xor", ("l1", "c")), ("r1", "xor", ("b", "c")),
     ("r2", "xor", ("a", "r1")), ("d", "xor", ("l2", "r2")), ("o", "and", ("d", "a"))),
    ("o",),
)


def full_paper(indexes):
    """Return the paper that goes through these sources one below the other."""
    if not indexes:
        return LEAF
    return ("case", indexes[0], full_paper(indexes[1:]), full_paper(indexes[1:]))


def papers_of(open_sources):
    """Return all papers whose cases go over these sources, of any size."""
    found = [LEAF]
    for index in open_sources:
        below = papers_of([other for other in open_sources if other != index])
        found.extend([("case", index, zero, one) for zero in below for one in below])
    return found


def is_right(parts, one, other, paper, partial):
    """Follow point 304 word for word, for a value that has the form of a paper."""
    if paper == LEAF:
        marks = oracle.marks(parts, one, other, partial)
        return not any(marks[line] & 6 for line in oracle.sinks_of(parts))
    _, index, zero, below = paper
    return all(
        is_right(parts, one, other, part, partial[:index] + (bit,) + partial[index + 1:])
        for bit, part in ((0, zero), (1, below)))


class Checked(unittest.TestCase):
    def takes(self, parts, one, other, paper):
        with self.subTest(parts=parts, one=one, other=other, paper=paper):
            self.assertIsNone(check_paper(Circuit(*parts), one, other, paper))

    def refuses(self, parts, one, other, paper):
        with self.subTest(parts=parts, one=one, other=other, paper=paper):
            with self.assertRaises(BadPaper):
                check_paper(Circuit(*parts), one, other, paper)


class RightPapers(Checked):
    def test_the_examples_of_the_document(self):
        paper = ("case", 0, LEAF, LEAF)
        self.takes(samples.TWO_WAYS, None, ("stem", "x", 0), paper)
        self.refuses(samples.TWO_WAYS, None, ("stem", "x", 0), LEAF)

    def test_a_leaf_alone(self):
        self.takes(samples.HALF, None, None, LEAF)
        self.takes(samples.NOTHING, None, None, LEAF)
        self.takes(samples.ONLY_CONSTANTS, None, ("stem", "h", 1), LEAF)
        self.takes(samples.ONLY_CONSTANTS, ("stem", "h", 0), ("pin", "n", 0, 0), LEAF)
        self.takes((("a",), (), (("x", "not", ("a",)),), ()), None, ("stem", "x", 0), LEAF)
        self.takes(samples.HALF, ("stem", "c", 0), ("stem", "c", 0), LEAF)
        self.refuses(samples.HALF, None, ("stem", "c", 0), LEAF)

    def test_the_same_short_twice_takes_cases(self):
        short = ("short", "a", "b", "and")
        self.refuses(samples.HALF, short, short, LEAF)
        self.takes(samples.HALF, short, short, full_paper((0, 1)))
        self.takes(samples.HALF, short, short, full_paper((1, 0)))

    def test_cases_several_deep(self):
        self.refuses(PARITY, None, ("stem", "d", 0), LEAF)
        for indexes in itertools.permutations(range(3)):
            self.takes(PARITY, None, ("stem", "d", 0), full_paper(indexes))
        for indexes in ((0,), (1,), (0, 1), (1, 2)):
            self.refuses(PARITY, None, ("stem", "d", 0), full_paper(indexes))
        # Where `a` is 0, the output is 0 without any further case.
        for first, second in ((1, 2), (2, 1)):
            self.takes(PARITY, None, ("stem", "d", 0), ("case", 0, LEAF, full_paper((first, second))))
            self.refuses(PARITY, None, ("stem", "d", 0), ("case", 0, full_paper((first, second)), LEAF))

    def test_different_cases_on_different_ways(self):
        paper = ("case", 0, full_paper((1, 2)), full_paper((2, 1)))
        self.takes(PARITY, None, ("stem", "d", 0), paper)
        self.takes(PARITY, ("stem", "d", 0), None, paper)
        paper = ("case", 1, ("case", 0, LEAF, ("case", 2, LEAF, LEAF)), full_paper((2, 0)))
        self.takes(PARITY, None, ("stem", "d", 0), paper)

    def test_cases_that_are_not_needed(self):
        self.takes(samples.HALF, None, None, full_paper((1, 0)))
        self.takes(samples.NO_GATES, None, None, full_paper((3, 1, 0, 2)))

    def test_registers_are_sources_too(self):
        parts = (("a",), (("p", "y"),), (("n", "not", ("p",)), ("x", "and", ("p", "n")), ("y", "and", ("x", "a"))), ())
        self.takes(parts, None, ("stem", "x", 0), ("case", 1, LEAF, LEAF))
        self.refuses(parts, None, ("stem", "x", 0), LEAF)
        self.takes(parts, None, ("stem", "x", 0), ("case", 0, LEAF, ("case", 1, LEAF, LEAF)))

    def test_what_a_register_takes_counts(self):
        self.refuses((("a",), (("p", "a"),), (), ()), None, ("stem", "a", 0), full_paper((0, 1)))

    def test_an_equal_pair_of_a_leaf_may_be_any(self):
        parts = (("a", "b"), (), (("x", "and", ("a", "b")), ("y", "buf", ("b",))), ("y",))
        self.takes(parts, None, ("pin", "x", 0, 1), LEAF)

    def test_forty_sources(self):
        inputs = tuple(f"i{k}" for k in range(40))
        parts = (inputs, (), (("n", "not", ("i39",)), ("x", "and", ("i39", "n"))), ("x",))
        paper = ("case", 39, LEAF, LEAF)
        for index in range(39):
            paper = ("case", index, paper, ("case", 39, LEAF, LEAF))
        self.takes(parts, None, ("stem", "x", 0), paper)
        self.refuses(parts, None, ("stem", "x", 0), ("case", 0, LEAF, LEAF))


class WrongPapers(Checked):
    def refuses_all(self, papers):
        for paper in papers:
            self.refuses(samples.TWO_WAYS, None, ("stem", "x", 0), paper)
            # Here nothing but the form of the paper can be wrong.
            self.refuses(samples.TWO_WAYS, None, None, paper)

    def test_indexes(self):
        wrong = [ANY, 2, 3, -1, -2, 40, 10 ** 30, True, False, None, "0", "a", 0.0, 1.0, (), (0,), [0], {}, object()]
        for index in wrong:
            self.refuses_all([
                ("case", index, LEAF, LEAF),
                ("case", 0, ("case", index, LEAF, LEAF), LEAF),
                ("case", 0, LEAF, ("case", index, LEAF, LEAF)),
            ])

    def test_a_case_twice_on_one_way(self):
        again = ("case", 0, LEAF, LEAF)
        deep = ("case", 1, LEAF, ("case", 0, LEAF, LEAF))
        self.refuses_all([
            ("case", 0, again, LEAF), ("case", 0, LEAF, again), ("case", 0, again, again),
            ("case", 0, deep, LEAF), ("case", 0, LEAF, deep),
            ("case", 1, ("case", 0, again, LEAF), LEAF),
        ])

    def test_forms_of_leaves(self):
        wrong = [ANY, (ANY,), "leaf", ["leaf"],
                 ("leaf", "leaf"), ("leaf", None), ("leaf", 0), ("leaf", ()), (LEAF,), ("LEAF",),
                 ("leaves",), ("lea",), ("",), (None,), (0,), (["leaf"],), {"leaf": 1}, {"leaf"}, b"leaf", (b"leaf",),
                 ("case",)]
        for value in wrong + samples.STRANGE:
            self.refuses_all([value, ("case", 0, value, LEAF), ("case", 0, LEAF, value),
                              ("case", 0, ("case", 1, LEAF, value), LEAF)])

    def test_forms_of_cases(self):
        wrong = [
            (ANY, 0, LEAF, LEAF),
            ["case", 0, LEAF, LEAF], ("case", 0, LEAF), ("case", 0), ("case", LEAF, LEAF),
            ("case", 0, LEAF, LEAF, LEAF),
            ("case", 0, LEAF, LEAF, None), (0, LEAF, LEAF), ("cases", 0, LEAF, LEAF), ("CASE", 0, LEAF, LEAF),
            ("leaf", 0, LEAF, LEAF), (None, 0, LEAF, LEAF), (["case"], 0, LEAF, LEAF), ("case", 0, (LEAF, LEAF)),
            ("case", 0, [LEAF, LEAF]), ("case", LEAF, 0, LEAF), "case", ("case", 0, LEAF, ["leaf"]),
            ("case", 0, ["case", 1, LEAF, LEAF], LEAF), (b"case", 0, LEAF, LEAF), ("case", 0, 1, 1),
        ]
        self.refuses_all(wrong)
        self.refuses_all([("case", 1, paper, LEAF) for paper in wrong])
        self.refuses_all([("case", 1, LEAF, paper) for paper in wrong])

    def test_a_leaf_where_a_case_is_needed(self):
        right = full_paper((0, 1, 2))
        self.takes(PARITY, None, ("stem", "d", 0), right)
        self.refuses(PARITY, None, ("stem", "d", 0), ("case", 0, right[2], LEAF))
        for k in (2, 3):
            below = list(right[3])
            below[k] = LEAF
            self.refuses(PARITY, None, ("stem", "d", 0), ("case", 0, right[2], tuple(below)))

    def test_a_case_without_any_source(self):
        self.refuses(samples.NOTHING, None, None, ("case", 0, LEAF, LEAF))
        self.refuses(samples.ONLY_CONSTANTS, None, None, ("case", 0, LEAF, LEAF))

    def test_papers_of_any_depth(self):
        for index in (0, 1):
            deep = LEAF
            for _ in range(100000):
                deep = ("case", index, deep, LEAF)
            with self.assertRaises(BadPaper):
                check_paper(Circuit(*samples.TWO_WAYS), None, None, deep)

    def test_every_paper_for_unlike_versions(self):
        for paper in papers_of([0, 1]):
            self.refuses(samples.HALF, None, ("stem", "c", 0), paper)
            self.refuses(samples.HALF, ("short", "a", "b", "and"), ("short", "a", "b", "or"), paper)


class AllPapers(Checked):
    def follows(self, parts, versions, papers):
        circuit = Circuit(*parts)
        empty = (None,) * len(circuit.sources())
        for one, other in versions:
            apart = any(
                oracle.response(parts, one, pattern) != oracle.response(parts, other, pattern)
                for pattern in oracle.patterns_of(parts))
            for paper in papers:
                if is_right(parts, one, other, paper, empty):
                    self.takes(parts, one, other, paper)
                    self.assertFalse(apart)
                else:
                    self.refuses(parts, one, other, paper)

    def test_two_sources(self):
        for parts in (samples.HALF, samples.TWO_WAYS, samples.NARROW):
            versions = samples.versions(parts)
            self.follows(parts, [(None, version) for version in versions], papers_of([0, 1]))
            self.follows(
                parts, [(one, versions[(3 * k + 2) % len(versions)]) for k, one in enumerate(versions)],
                papers_of([0, 1]))

    def test_three_sources(self):
        versions = samples.versions(PARITY)
        papers = papers_of([0, 1, 2])
        self.assertEqual(len(papers), 244)
        self.follows(PARITY, [(None, version) for version in versions[::7]], papers[::5] + papers[-1:])
        self.follows(PARITY, [(None, ("stem", "d", 0)), (("stem", "o", 0), ("stem", "d", 0))], papers)

    def test_mixed_circuits(self):
        for start in range(80, 95):
            parts = samples.mixed(start, 2, 6)
            versions = samples.versions(parts)
            self.follows(
                parts, [(one, versions[(5 * k + start) % len(versions)]) for k, one in enumerate(versions)],
                papers_of([0, 1]))


class Versions(unittest.TestCase):
    def test_a_version_that_is_none(self):
        circuit = Circuit(*samples.HALF)
        for version in NO_VERSIONS:
            for paper in [LEAF, ("case", 0, LEAF, LEAF), None, ("leaf", 1), 7]:
                with self.subTest(version=version, paper=paper):
                    self.assertRaises(BadBreak, check_paper, circuit, version, None, paper)
                    self.assertRaises(BadBreak, check_paper, circuit, None, version, paper)


class Sizes(unittest.TestCase):
    def test_by_hand(self):
        self.assertEqual(size_of(LEAF), 1)
        self.assertEqual(size_of(("case", 0, LEAF, LEAF)), 2)
        self.assertEqual(size_of(("case", 3, LEAF, ("case", 1, ("case", 0, LEAF, LEAF), LEAF))), 4)
        for many in range(8):
            self.assertEqual(size_of(full_paper(tuple(range(many)))), 2 ** many)

    def test_a_deep_paper(self):
        paper = LEAF
        for index in range(40):
            paper = ("case", index, paper, LEAF)
        self.assertEqual(size_of(paper), 41)


class Partials(unittest.TestCase):
    def test_empty_partial(self):
        self.assertEqual(empty_partial(Circuit(*samples.HALF)), (None, None))
        self.assertEqual(empty_partial(Circuit(*samples.NO_GATES)), (None,) * 4)
        self.assertEqual(empty_partial(Circuit(*samples.NOTHING)), ())

    def test_with_bit(self):
        self.assertEqual(with_bit((None,), 0, 1), (1,))
        self.assertEqual(with_bit((None, 0, None), 0, 0), (0, 0, None))
        self.assertEqual(with_bit((None, 0, None), 2, 1), (None, 0, 1))
        self.assertEqual(with_bit((None, 0, None), 1, 1), (None, 1, None))
        self.assertEqual(with_bit((1, 0, 1), 1, 0), (1, 0, 1))

    def test_filled(self):
        circuit = Circuit(*samples.WIDE)
        self.assertEqual(filled(circuit, (None, 0, 1, None), 0), (0, 0, 1, 0))
        self.assertEqual(filled(circuit, (None, 0, 1, None), 1), (1, 0, 1, 1))
        self.assertEqual(filled(circuit, (None,) * 4, 1), (1, 1, 1, 1))
        self.assertEqual(filled(circuit, (0, 1, 0, 1), 1), (0, 1, 0, 1))
        self.assertEqual(filled(Circuit(*samples.NOTHING), (), 0), ())

    def test_filled_for_a_value_that_is_no_partial_pattern(self):
        circuit = Circuit(*samples.HALF)
        for partial in NO_PARTIALS:
            for bit in (0, 1):
                with self.subTest(partial=partial):
                    self.assertRaises(BadPattern, filled, circuit, partial, bit)

    def test_agree_by_hand(self):
        for one, other, found in [
            ((), (), True), ((None,), (0,), True), ((0,), (None,), True), ((None,), (None,), True),
            ((0,), (0,), True), ((1,), (1,), True), ((0,), (1,), False), ((1,), (0,), False),
            ((0, None, 1), (None, 1, 1), True), ((0, None, 1), (None, 1, 0), False),
            ((0, None, 1), (1, 1, 1), False), ((0, 1), (0, 0), False),
        ]:
            with self.subTest(one=one, other=other):
                self.assertIs(agree(one, other), found)

    def test_together_by_hand(self):
        self.assertEqual(together((), ()), ())
        self.assertEqual(together((0, None, None), (None, 1, None)), (0, 1, None))
        self.assertEqual(together((None, 1), (0, None)), (0, 1))
        self.assertEqual(together((0, 1, None), (0, 1, 0)), (0, 1, 0))
        self.assertEqual(together((None, None), (1, 0)), (1, 0))

    def test_all_of_three_sources(self):
        partials = list(itertools.product((0, 1, None), repeat=3))
        for one in partials:
            for other in partials:
                with self.subTest(one=one, other=other):
                    both = set(oracle.filling(one)) & set(oracle.filling(other))
                    self.assertIs(agree(one, other), bool(both))
                    if both:
                        self.assertEqual(set(oracle.filling(together(one, other))), both)
                        self.assertIs(type(together(one, other)), tuple)


if __name__ == "__main__":
    unittest.main()
