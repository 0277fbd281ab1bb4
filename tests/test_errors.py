"""Tests of point 101: the errors."""

import copy
import pickle
import unittest

from probewright import errors
from probewright.errors import (
    BadBreak,
    BadCircuit,
    BadJob,
    BadNetlist,
    BadPaper,
    BadPattern,
    BadSignature,
    BadTester,
    ProbeError,
)

# Each class with the arguments that it is made with here.
PLAIN = [
    (BadBreak, ("no such line",)),
    (BadPattern, ("too short",)),
    (BadPaper, ("a sink differs",)),
    (BadTester, ("no such chain",)),
    (BadSignature, ("no such tap",)),
]
TOLD = [
    (BadNetlist, (3, "gate")),
    (BadCircuit, ("twice", "a")),
    (BadJob, (12, "bits")),
]
ALL = PLAIN + TOLD


class Classes(unittest.TestCase):
    def test_the_base_is_a_value_error(self):
        self.assertTrue(issubclass(ProbeError, ValueError))
        error = ProbeError("wrong")
        self.assertIsInstance(error, ValueError)
        for kind, _ in ALL:
            self.assertNotIsInstance(error, kind)

    def test_each_is_a_direct_subclass_of_the_base(self):
        for kind, told in ALL:
            with self.subTest(kind=kind.__name__):
                self.assertEqual(kind.__bases__, (ProbeError,))
                error = kind(*told)
                self.assertIsInstance(error, kind)
                self.assertIsInstance(error, ProbeError)
                self.assertIsInstance(error, ValueError)

    def test_none_is_a_subclass_of_another_one(self):
        for kind, told in ALL:
            error = kind(*told)
            for other, _ in ALL:
                if other is not kind:
                    with self.subTest(kind=kind.__name__, other=other.__name__):
                        self.assertNotIsInstance(error, other)
                        self.assertFalse(issubclass(kind, other))

    def test_there_are_no_other_errors_and_all_are_defined_here(self):
        found = [value for value in vars(errors).values() if isinstance(value, type)]
        self.assertEqual(set(found), {ProbeError} | {kind for kind, _ in ALL})
        for kind in found:
            self.assertEqual(kind.__module__, "probewright.errors")

    def test_each_is_caught_by_its_name_and_by_its_bases(self):
        for kind, told in ALL:
            for caught in (kind, ProbeError, ValueError):
                with self.subTest(kind=kind.__name__, caught=caught.__name__):
                    with self.assertRaises(caught):
                        raise kind(*told)

    def test_none_is_caught_by_the_name_of_another_one(self):
        for kind, told in ALL:
            others = tuple(other for other, _ in ALL if other is not kind)
            with self.subTest(kind=kind.__name__):
                try:
                    raise kind(*told)
                except others:
                    self.fail("caught by another name")
                except ProbeError as error:
                    self.assertIs(error.__class__, kind)


class Arguments(unittest.TestCase):
    def test_netlist(self):
        error = BadNetlist(3, "gate")
        self.assertEqual((error.row, error.reason), (3, "gate"))
        error = BadNetlist(0, "loop")
        self.assertEqual((error.row, error.reason), (0, "loop"))
        error = BadNetlist(reason="end", row=1)
        self.assertEqual((error.row, error.reason), (1, "end"))

    def test_circuit(self):
        error = BadCircuit("twice", "a")
        self.assertEqual((error.reason, error.name), ("twice", "a"))
        error = BadCircuit("form", "")
        self.assertEqual((error.reason, error.name), ("form", ""))
        error = BadCircuit(name="z", reason="loop")
        self.assertEqual((error.reason, error.name), ("loop", "z"))

    def test_job(self):
        error = BadJob(12, "bits")
        self.assertEqual((error.row, error.reason), (12, "bits"))
        error = BadJob(1, "end")
        self.assertEqual((error.row, error.reason), (1, "end"))
        error = BadJob(reason="question", row=4)
        self.assertEqual((error.row, error.reason), (4, "question"))

    def test_two_errors_keep_their_own_arguments(self):
        first = BadNetlist(1, "row")
        second = BadNetlist(2, "name")
        self.assertEqual((first.row, first.reason), (1, "row"))
        self.assertEqual((second.row, second.reason), (2, "name"))

    def test_a_wrong_number_of_arguments(self):
        for kind, told in TOLD:
            for wrong in ((), told[:1], told + ("more",)):
                with self.subTest(kind=kind.__name__, wrong=wrong):
                    with self.assertRaises(TypeError):
                        kind(*wrong)

    def test_the_others_take_a_text_or_nothing(self):
        for kind, told in [(ProbeError, ("wrong",))] + PLAIN:
            with self.subTest(kind=kind.__name__):
                self.assertEqual(str(kind(*told)), told[0])
                self.assertIsInstance(kind(), kind)

    def test_a_copy_has_the_same_class_and_arguments(self):
        for kind, told in ALL:
            error = kind(*told)
            for again in (copy.copy(error), pickle.loads(pickle.dumps(error))):
                with self.subTest(kind=kind.__name__):
                    self.assertIs(again.__class__, kind)
                    self.assertEqual(again.args, told)
                    self.assertEqual(vars(again), vars(error))


if __name__ == "__main__":
    unittest.main()
