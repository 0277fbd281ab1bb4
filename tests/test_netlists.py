"""Tests of points 108 to 110: netlists."""

import itertools
import unittest

import samples
from probewright.circuits import KINDS, Circuit
from probewright.errors import BadNetlist
from probewright.netlists import parse, text_of


class Checked(unittest.TestCase):
    def reads(self, text, name, parts):
        with self.subTest(text=text):
            found = parse(text)
            self.assertIs(type(found), tuple)
            self.assertEqual(len(found), 2)
            self.assertEqual(found[0], name)
            self.assertIsInstance(found[1], Circuit)
            self.assertEqual(found[1].parts(), parts)

    def refuses(self, row, reason, text):
        with self.subTest(text=text):
            with self.assertRaises(BadNetlist) as caught:
                parse(text)
            self.assertEqual((caught.exception.row, caught.exception.reason), (row, reason))


class Reading(Checked):
    def test_the_example_of_the_document(self):
        name, circuit = parse("circuit half\ninput a b\ngate s xor a b\ngate c and a b\noutput s c\n")
        self.assertEqual(name, "half")
        self.assertEqual((circuit.sources(), circuit.sinks()), (["a", "b"], ["s", "c"]))
        self.assertEqual(
            text_of(name, circuit),
            "circuit half\ninput a\ninput b\ngate s xor a b\ngate c and a b\noutput s\noutput c\n")

    def test_a_circuit_alone(self):
        self.reads("circuit c\n", "c", samples.NOTHING)
        self.reads("circuit abcdefghijkl\n", "abcdefghijkl", samples.NOTHING)

    def test_every_order_of_the_rows(self):
        rows = ["input a b\n", "register p z\n", "gate z and a p\n", "output z b\n"]
        parts = (("a", "b"), (("p", "z"),), (("z", "and", ("a", "p")),), ("z", "b"))
        for mixed in itertools.permutations(rows):
            self.reads("circuit c\n" + "".join(mixed), "c", parts)

    def test_rows_of_one_kind_keep_their_order(self):
        text = (
            "circuit c\noutput z\nregister q a\ninput b\ngate z not y\noutput b z\nregister p q\n"
            "input a c\ngate y low\noutput a\ninput d\n")
        parts = (
            ("b", "a", "c", "d"), (("q", "a"), ("p", "q")), (("z", "not", ("y",)), ("y", "low", ())),
            ("z", "b", "z", "a"))
        self.reads(text, "c", parts)

    def test_every_kind_of_gate(self):
        for kind in KINDS:
            fits = (0,) if kind in ("low", "high") else (1,) if kind in ("not", "buf") else (1, 2, 3, 4)
            for many in range(7):
                text = "circuit c\ninput a\ngate z " + kind + " a" * many + "\n"
                if many in fits:
                    self.reads(text, "c", (("a",), (), (("z", kind, ("a",) * many),), ()))
                else:
                    self.refuses(3, "gate", text)

    def test_words_of_the_rows_may_be_names(self):
        text = (
            "circuit circuit\ninput input gate\nregister register output\n"
            "gate output and input gate\noutput output\n")
        parts = (
            ("input", "gate"), (("register", "output"),), (("output", "and", ("input", "gate")),),
            ("output",))
        self.reads(text, "circuit", parts)


class End(Checked):
    def test_no_newline_at_the_end(self):
        self.refuses(1, "end", "")
        self.refuses(1, "end", "circuit c")
        self.refuses(2, "end", "circuit c\ninput a")
        self.refuses(2, "end", "circuit c\n ")
        self.refuses(3, "end", "circuit c\n\ninput a")
        self.refuses(1, "end", "x")

    def test_ahead_of_every_other_row(self):
        self.refuses(2, "end", "input a\noutput")
        self.refuses(3, "end", "circuit c\ngate\nB")
        self.refuses(4, "end", "\n\n\nx")
        self.refuses(2, "end", "circuit c\ninput a\r")

    def test_other_ends_of_lines_are_none(self):
        self.refuses(1, "end", "circuit c\r")
        self.refuses(1, "end", "circuit c\x0b")
        self.refuses(1, "end", "circuit c\u2028")
        self.refuses(1, "name", "circuit c\r\n")
        self.refuses(2, "name", "circuit c\ninput a\rinput b\n")
        self.refuses(2, "name", "circuit c\ninput a\x0c\n")
        self.refuses(2, "name", "circuit c\ninput a\u2028\n")


class TheRowCircuit(Checked):
    def test_missing(self):
        self.refuses(1, "circuit", "input a\n")
        self.refuses(1, "circuit", "gate z low\ncircuit c\n")
        self.refuses(1, "circuit", "\n")
        self.refuses(1, "circuit", "\ncircuit c\n")
        self.refuses(1, "circuit", " circuit c\n")
        self.refuses(1, "circuit", "Circuit c\n")
        self.refuses(1, "circuit", "circuits c\n")
        self.refuses(1, "circuit", "circuit\tc\n")

    def test_a_second_one(self):
        self.refuses(2, "circuit", "circuit c\ncircuit c\n")
        self.refuses(4, "circuit", "circuit c\ninput a\noutput a\ncircuit d\n")

    def test_ahead_of_the_other_checks_of_the_row(self):
        self.refuses(1, "circuit", "gate\n")
        self.refuses(1, "circuit", "gate Z nop\n")
        self.refuses(1, "circuit", "input A\n")
        self.refuses(1, "circuit", "input\n")
        self.refuses(1, "circuit", "nothing such\n")
        self.refuses(2, "circuit", "circuit c\ncircuit\n")
        self.refuses(2, "circuit", "circuit c\ncircuit C\n")
        self.refuses(2, "circuit", "circuit c\ncircuit c d\n")

    def test_words(self):
        self.refuses(1, "row", "circuit\n")
        self.refuses(1, "row", "circuit c d\n")
        self.refuses(1, "name", "circuit C\n")
        self.refuses(1, "name", "circuit abcdefghijklm\n")
        self.refuses(1, "name", "circuit \n")
        self.refuses(1, "name", "circuit  c\n")
        self.refuses(1, "name", "circuit c \n")
        self.refuses(1, "name", "circuit c D\n")


class Gates(Checked):
    def test_what_follows_is_not_a_gate(self):
        rows = [
            "gate", "gate z", "gate z and", "gate z low a", "gate z not", "gate z not a a", "gate z nop a",
            "gate z and a a a a a", "gate Z and a", "gate z and A", "gate z and a A", "gate z AND a",
            "gate z and abcdefghijklm", "gate abcdefghijklm low", "gate z a and", "gate and z a",
        ]
        for row in rows:
            self.refuses(3, "gate", "circuit c\ninput a\n" + row + "\n")

    def test_blanks(self):
        rows = ["gate ", "gate  z low", "gate z  low", "gate z low ", "gate z and  a", "gate z and a ",
                "gate z and a  a", "gate z\tlow", "gate z low\r"]
        for row in rows:
            self.refuses(3, "gate", "circuit c\ninput a\n" + row + "\n")
        self.refuses(3, "row", "circuit c\ninput a\n gate z low\n")


class Names(Checked):
    def test_a_word_that_is_no_name(self):
        for word in ["A", "0", "0a", "_a", "a-b", "a.b", "a\tb", "\u00e4", "abcdefghijklm", "a,", "a\x00"]:
            for row in ["input " + word, "input a " + word, "output " + word, "register " + word + " a",
                        "register p " + word, "nothing " + word, "input " + word + " a"]:
                self.refuses(2, "name", "circuit c\n" + row + "\ninput b\n")

    def test_blanks(self):
        for row in ["input ", "input  a", "input a ", "input a  b", "output ", "output a ", "register p  a",
                    "register  p a", "register p a ", "nothing ", "nothing  a", "  ", " input  a"]:
            self.refuses(2, "name", "circuit c\n" + row + "\n")

    def test_ahead_of_the_form_of_the_row(self):
        self.refuses(2, "name", "circuit c\nregister P\n")
        self.refuses(2, "name", "circuit c\nregister p a B\n")
        self.refuses(2, "name", "circuit c\nfoo A\n")
        self.refuses(1, "name", "circuit C d\n")


class Rows(Checked):
    def test_too_few_or_too_many_words(self):
        for row in ["input", "output", "register", "register p", "register p a a", "register p a a a"]:
            self.refuses(3, "row", "circuit c\ninput a\n" + row + "\n")

    def test_no_such_row(self):
        for row in ["", "inputs a", "Input a", "registers p a", "gates z low", "nothing", "a", "outputs a",
                    "stem a", " input a", " ", " a", "input: a", "\tinput a", "ask tests", "GATE z low"]:
            reason = "name" if row == " " else "row"
            self.refuses(2, reason, "circuit c\n" + row + "\n")

    def test_empty_rows(self):
        self.refuses(2, "row", "circuit c\n\n")
        self.refuses(3, "row", "circuit c\ninput a\n\noutput a\n")

    def test_the_first_wrong_row_counts(self):
        self.refuses(2, "row", "circuit c\ninput\ngate\ninput A\ncircuit d\n")
        self.refuses(2, "name", "circuit c\ninput A\ngate\ncircuit d\n")
        self.refuses(2, "gate", "circuit c\ngate\ninput A\n\n")
        self.refuses(3, "circuit", "circuit c\ninput a\ncircuit d\ngate\n")
        self.refuses(3, "gate", "circuit c\ninput a\ngate z nop\ncircuit c\n")
        self.refuses(1, "name", "circuit 1\ncircuit c\n")


class Parts(Checked):
    def test_each_reason(self):
        self.refuses(0, "twice", "circuit c\ninput a a\n")
        self.refuses(0, "twice", "circuit c\ninput a\ngate a low\n")
        self.refuses(0, "unknown", "circuit c\noutput a\n")
        self.refuses(0, "unknown", "circuit c\nregister p a\n")
        self.refuses(0, "unknown", "circuit c\ngate z not a\n")
        self.refuses(0, "loop", "circuit c\ngate z not z\n")
        names = " ".join(f"i{k}" for k in range(41))
        self.refuses(0, "size", "circuit c\ninput " + names + "\n")
        rows = "".join(f"gate g{k} low\n" for k in range(401))
        self.refuses(0, "size", "circuit c\n" + rows)

    def test_behind_every_row(self):
        self.refuses(3, "row", "circuit c\ninput a a\n\n")
        self.refuses(4, "gate", "circuit c\ninput a a\noutput b\ngate\n")
        self.refuses(3, "circuit", "circuit c\noutput b\ncircuit c\n")
        self.refuses(3, "end", "circuit c\ninput a a\noutput a")

    def test_the_first_reason_counts(self):
        self.refuses(0, "twice", "circuit c\noutput b\ninput a a\ngate z not z\n")
        self.refuses(0, "unknown", "circuit c\noutput b\ngate z not z\n")

    def test_the_limits_themselves(self):
        names = [f"i{k}" for k in range(40)]
        self.reads("circuit c\ninput " + " ".join(names) + "\n", "c", (tuple(names), (), (), ()))
        rows = "".join(f"gate g{k} low\n" for k in range(400))
        self.assertEqual(len(parse("circuit c\n" + rows)[1].lines()), 400)


class Text(Checked):
    def test_by_hand(self):
        parts = (
            ("b", "a"), (("q", "z"), ("p", "q")), (("z", "and", ("a", "p")), ("y", "low", ())),
            ("z", "b", "z"))
        self.assertEqual(
            text_of("some_name", Circuit(*parts)),
            "circuit some_name\ninput b\ninput a\nregister q z\nregister p q\n"
            "gate z and a p\ngate y low\noutput z\noutput b\noutput z\n")
        self.assertEqual(text_of("c", Circuit((), (), (), ())), "circuit c\n")

    def test_the_round(self):
        cases = list(samples.ALL) + [samples.mixed(start, start % 7, 1 + start % 15) for start in range(40)]
        for parts in cases:
            text = text_of("round_1", Circuit(*parts))
            self.reads(text, "round_1", parts)
            name, circuit = parse(text)
            self.assertEqual(text_of(name, circuit), text)

    def test_a_text_that_is_not_canonical(self):
        name, circuit = parse("circuit c\noutput z b\ngate z and a b\ninput a b\n")
        self.assertEqual(
            text_of(name, circuit), "circuit c\ninput a\ninput b\ngate z and a b\noutput z\noutput b\n")


if __name__ == "__main__":
    unittest.main()
