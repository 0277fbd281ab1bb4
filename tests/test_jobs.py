"""Tests of points 1000 to 1003: jobs."""

import unittest

import oracle
import samples
from probewright.breaks import stuck_breaks
from probewright.circuits import Circuit
from probewright.errors import BadJob, BadNetlist
from probewright.findings import allowed
from probewright.generator import answer
from probewright.jobs import bits_text, run_job, version_text
from probewright.late import late_answer
from probewright.netlists import text_of
from probewright.papers import size_of
from probewright.testsets import build
from test_papers import PARITY

AND = "circuit c\ninput a b\ngate z and a b\noutput z\n"
# Four rows, with a register, and a gate that is always 0.
TWO_WAYS = "circuit c\ninput a b\nregister r y\ngate n not a\ngate x and a n\ngate y or x b\noutput y r\n"
# A netlist without sources and sinks.
BARE = "circuit c\ngate h high\n"


class Texts(unittest.TestCase):
    def test_versions(self):
        for version, text in [
            (None, "right"), (("stem", "a", 0), "stem a 0"), (("stem", "long_name_12", 1), "stem long_name_12 1"),
            (("pin", "z", 3, 1), "pin z 3 1"), (("pin", "z", 0, 0), "pin z 0 0"),
            (("short", "a", "b", "and"), "short a b and"), (("short", "x1", "x2", "or"), "short x1 x2 or"),
        ]:
            self.assertEqual(version_text(version), text)

    def test_bits(self):
        for bits, text in [((), ""), ((0,), "0"), ((1, 0, 0, 1), "1001"), ((None,), "-"), ((0, None, 1, None), "0-1-"),
                           ((None, None), "--")]:
            self.assertEqual(bits_text(bits), text)


class Answers(unittest.TestCase):
    def job(self, netlist, *questions):
        return run_job(netlist + "".join(question + "\n" for question in questions))

    def test_the_examples_of_the_document(self):
        self.assertEqual(
            run_job("circuit c\ninput a b\ngate z and a b\noutput z\n"
                    "ask response stem a 1 01\nask allowed 11=1 00=0 01=1\n"),
            ["response 1", "allowed stem a 1", "allowed pin z 0 1"])

    def test_no_question(self):
        self.assertEqual(run_job(AND), [])
        self.assertEqual(run_job("circuit c\n"), [])
        self.assertEqual(run_job(TWO_WAYS), [])

    def test_response(self):
        self.assertEqual(self.job(
            AND, "ask response right 11", "ask response right 10", "ask response pin z 1 1 10",
            "ask response short a b or 10", "ask response stem z 1 00"),
            ["response 1", "response 0", "response 1", "response 1", "response 1"])
        # The sinks: y and r, and what r takes.
        self.assertEqual(
            self.job(TWO_WAYS, "ask response right 011", "ask response stem b 0 011", "ask response stem r 0 001"),
            ["response 111", "response 010", "response 000"])

    def test_response_of_every_version(self):
        for parts in (samples.HALF, samples.WIDE, samples.NO_GATES, samples.NAMED):
            netlist = text_of("c", Circuit(*parts))
            for version in samples.versions(parts):
                for pattern in oracle.patterns_of(parts)[::5]:
                    question = "ask response " + version_text(version) + " " + bits_text(pattern)
                    row = "response " + bits_text(oracle.response(parts, version, pattern))
                    self.assertEqual(self.job(netlist, question), [row])

    def test_part(self):
        for parts in (samples.NARROW, samples.NAMED):
            circuit = Circuit(*parts)
            netlist = text_of("c", circuit)
            for version in samples.versions(parts):
                for other in (None, version, samples.versions(parts)[-1]):
                    word, found = answer(circuit, version, other)
                    row = "parted " + bits_text(found) if word == "parted" else f"alike {size_of(found)}"
                    question = "ask part " + version_text(version) + " / " + version_text(other)
                    self.assertEqual(self.job(netlist, question), [row])
        self.assertEqual(self.job(AND, "ask part right / right"), ["alike 1"])
        self.assertEqual(self.job(AND, "ask part stem a 0 / pin z 1 0", "ask part right / stem z 0"),
                         ["alike 1", "parted 11"])

    def test_late(self):
        for parts in (samples.TWO_WAYS, samples.NARROW, PARITY, samples.NAMED):
            circuit = Circuit(*parts)
            netlist = text_of("c", circuit)
            for line in circuit.lines():
                for value in (0, 1):
                    found = late_answer(circuit, ("late", line, value))
                    if found[0] == "pair":
                        row = "pair " + bits_text(found[1]) + " " + bits_text(found[2])
                    else:
                        row = f"{found[0]} {size_of(found[1])}"
                    self.assertEqual(self.job(netlist, f"ask late {line} {value}"), [row])
        two_ways = text_of("c", Circuit(*samples.TWO_WAYS))
        self.assertEqual(
            self.job(two_ways, "ask late x 0", "ask late x 1", "ask late a 0"), ["never 2", "alike 2", "alike 2"])
        self.assertEqual(self.job(AND, "ask late z 1")[0][-2:], "11")
        self.assertEqual(self.job(BARE, "ask late h 1"), ["never 1"])

    def test_tests(self):
        for parts in (samples.HALF, samples.TWO_WAYS, samples.WIDE, samples.NARROW, samples.TEN, samples.NO_GATES,
                      samples.NAMED):
            circuit = Circuit(*parts)
            _, patterns, papers = build(circuit, stuck_breaks(circuit))
            found = self.job(text_of("c", circuit), "ask tests")
            rows = [f"tests {len(patterns)} {len(papers)}"]
            rows += ["test " + bits_text(pattern) for pattern in patterns]
            rows += ["hidden " + version_text(broken) for broken, _ in papers]
            self.assertEqual(found, rows)
            hidden = [broken for broken in stuck_breaks(circuit) if not oracle.parting(parts, None, broken)]
            self.assertEqual([broken for broken, _ in papers], hidden)
        self.assertEqual(self.job(BARE, "ask tests"), ["tests 0 2", "hidden stem h 0", "hidden stem h 1"])
        self.assertEqual(self.job("circuit c\n", "ask tests"), ["tests 0 0"])

    def test_allowed(self):
        self.assertEqual(
            self.job(AND, "ask allowed"),
            ["allowed right"] + ["allowed " + version_text(broken) for broken in samples.stems(
                (("a", "b"), (), (("z", "and", ("a", "b")),), ("z",)))]
            + [f"allowed pin z {index} {bit}" for index in (0, 1) for bit in (0, 1)])
        self.assertEqual(self.job(AND, "ask allowed 11=1 11=0"), [])
        self.assertEqual(
            self.job(AND, "ask allowed 00=1"), ["allowed stem z 1"])
        self.assertEqual(self.job(BARE, "ask allowed ="), ["allowed right", "allowed stem h 0", "allowed stem h 1"])
        circuit = Circuit(*samples.WIDE)
        versions = [None] + stuck_breaks(circuit)
        patterns = oracle.patterns_of(samples.WIDE)[3:9]
        for version in versions[::3]:
            rows = [oracle.response(samples.WIDE, version, pattern) for pattern in patterns]
            words = [bits_text(pattern) + "=" + bits_text(row) for pattern, row in zip(patterns, rows)]
            self.assertEqual(
                self.job(text_of("c", circuit), "ask allowed " + " ".join(words)),
                ["allowed " + version_text(other) for other in allowed(circuit, versions, patterns, rows)])

    def test_several_questions_in_order(self):
        questions = ["ask tests", "ask late a 1", "ask response right 11", "ask allowed 11=0 01=0", "ask allowed 00=1",
                     "ask part right / right", "ask response right 00", "ask tests"]
        alone = [self.job(AND, question) for question in questions]
        self.assertEqual(alone[2:3] + alone[4:7], [["response 1"], ["allowed stem z 1"], ["alike 1"], ["response 0"]])
        self.assertEqual(self.job(AND, *questions), [row for rows in alone for row in rows])
        self.assertEqual(self.job(AND, *questions[::-1]), [row for rows in alone[::-1] for row in rows])

    def test_no_sources_and_no_sinks(self):
        # The texts of the pattern and of the response are empty.
        self.assertEqual(self.job(BARE, "ask response right "), ["response "])
        self.assertEqual(self.job(BARE, "ask response stem h 0 "), ["response "])
        self.assertEqual(self.job(BARE, "ask part right / stem h 0"), ["alike 1"])
        self.assertEqual(
            self.job("circuit c\ngate h high\noutput h\n", "ask part right / stem h 0", "ask response right "),
            ["parted ", "response 1"])


class WrongJobs(unittest.TestCase):
    def raises(self, text, row, reason):
        with self.subTest(text=text):
            with self.assertRaises(BadJob) as caught:
                run_job(text)
            self.assertEqual((caught.exception.row, caught.exception.reason), (row, reason))

    def test_end(self):
        self.raises("", 1, "end")
        self.raises("circuit c", 1, "end")
        self.raises(AND + "ask tests", 5, "end")
        self.raises(AND[:-1], 4, "end")
        self.raises("\n\n x", 3, "end")
        self.raises("\nask", 2, "end")

    def test_end_comes_first(self):
        self.raises("circuit c\nnonsense\nask nothing\nask tests", 4, "end")
        self.raises(AND + "ask response u 0\n ", 6, "end")

    def test_netlists(self):
        for text, row, reason in [
            ("ask tests\n", 1, "end"), ("ask nothing\n", 1, "end"), ("\n", 1, "circuit"), ("\nask tests\n", 1, "circuit"),
            ("circuit c\ncircuit d\nask tests\n", 2, "circuit"), ("circuit c\ngate z nop a\nask tests\n", 2, "gate"),
            ("circuit c\ninput A\nask no\n", 2, "name"), ("circuit c\nwire a\n", 2, "row"),
            ("circuit c\noutput a\nask tests\n", 0, "unknown"), ("circuit c\ninput a a\nask nothing\n", 0, "twice"),
            ("circuit c\n ask tests\n", 2, "row"), ("circuit c\nasks\n", 2, "row"), ("circuit c\n\nask tests\n", 2, "row"),
            ("circuit c\ninput  a\nask tests\n", 2, "name"), ("circuit c\ngate z buf z\n", 0, "loop"),
        ]:
            with self.subTest(text=text):
                with self.assertRaises(BadNetlist) as caught:
                    run_job(text)
                self.assertEqual((caught.exception.row, caught.exception.reason), (row, reason))

    def test_question(self):
        for question in ["ask", "ask ", "ask nothing", "ask response", "ask Response right 01", "ask  tests",
                         "ask  response right 01", "ask responses right 01", "ask stem a 0", "ask right 01", "input q",
                         "gate y not a", "circuit d", "output z", "", " ", " ask tests", "asks tests", "Ask tests",
                         "tests", "ask\ttests", "ask /", "ask register", "register q z"]:
            # Some of these are rows of netlists, unless a question has come.
            self.raises(AND + "ask allowed\n" + question + "\n", 6, "question")
            if question.startswith("ask") and question.split(" ")[0] == "ask":
                self.raises(AND + question + "\n", 5, "question")

    def test_break(self):
        versions = [
            "", "Right", "right right", "none", "stem", "stem a", "stem a 2", "stem a 00", "stem a 01", "stem a -1",
            "stem a x", "stem u 0", "stem a 0 0", "stem  a 0", "stem a  0", " stem a 0", "stem a 0 ", "pin z 2 0",
            "pin z 0 2", "pin a 0 0", "pin z 0", "pin z 00 0", "pin z 0 0 0", "short a b", "short b a and",
            "short a b xor", "short a z and", "short a a and", "short a b and and", "stem 0 0", "pin z a 0", "0",
            "late a 0", "stem a \u0661", "stem a 1.0", "STEM a 0", "stem,a,0", "right ", "/",
        ]
        for version in versions:
            self.raises(AND + "ask response " + version + " 01\n", 5, "break")
            self.raises(AND + "ask tests\nask part " + version + " / right\n", 6, "break")
            self.raises(AND + "ask part right / " + version + "\n", 5, "break")
        for question in ["ask part", "ask part ", "ask part right", "ask part right right", "ask part right/right",
                         "ask part right / right / right", "ask part /", "ask part / /", "ask part right /",
                         "ask part / right", "ask part right // right", "ask part right  / right",
                         "ask late", "ask late ", "ask late a", "ask late a 2", "ask late a 00", "ask late u 0",
                         "ask late a 0 0", "ask late late a 0", "ask late  a 0", "ask late a  0", "ask late a 0 ",
                         "ask late 0 a", "ask late a x", "ask tests x", "ask tests ", "ask tests tests", "ask tests 0",
                         "ask response 01", "ask response ", "ask response right"]:
            self.raises(AND + question + "\n", 5, "break")

    def test_bits(self):
        for text in ["", "0", "011", "0-", "--", "02", "ab", "0,1", "01=", "\u0661\u0661", "0x1", "1.", "+1", "-1", "\t1"]:
            self.raises(AND + "ask response right " + text + "\n", 5, "bits")
            self.raises(AND + "ask response stem a 1 " + text + "\n", 5, "bits")
            if text != "01=":
                self.raises(AND + "ask allowed " + text + "=1\n", 5, "bits")
            self.raises(AND + "ask allowed 01=0 " + text + "\n", 5, "bits")
        for words in ["", "01", "01=", "=1", "=", "01=01", "01=2", "01=-", "01==1", "01=1=1", "==", "01=1 ", " 01=1",
                      "01=1  00=0", "01 = 1", "01= 1", "01:1", "01=0 1=0", "01=0 011=0", "01=0 01=", "0-=1", "01=0,00=0"]:
            self.raises(AND + "ask allowed " + words + "\n", 5, "bits")

    def test_words_of_circuits_without_sinks(self):
        self.assertEqual(len(run_job("circuit c\ninput a b\nask allowed 01= 11=\n")), 5)
        for words in ["01", "", "01==", "01=0", "=", "01= 11"]:
            self.raises("circuit c\ninput a b\nask allowed " + words + "\n", 3, "bits")
        for words in ["", "==", "0=", "=0", "= ", " ="]:
            self.raises(BARE + "ask allowed " + words + "\n", 3, "bits")

    def test_two_at_once(self):
        # The version is looked at ahead of the pattern.
        self.raises(AND + "ask response stem u 0 0\n", 5, "break")
        self.raises(AND + "ask response stem a 2 01x\n", 5, "break")
        self.raises(AND + "ask response x\n", 5, "break")
        # The first question that cannot be answered counts, whatever its reason.
        self.raises(AND + "ask tests\nask response right 0\nask part right\n", 6, "bits")
        self.raises(AND + "ask part right\nask response right 0\nask\n", 5, "break")
        self.raises(AND + "ask\nask part right\nask allowed 0\n", 5, "question")
        self.raises(AND + "ask allowed 0\ninput q\nask\n", 5, "bits")
        self.raises(AND + "ask tests\nask tests\nask tests x\nask no\n", 7, "break")
        # A netlist row behind a question, and a question ahead of the netlist.
        self.raises(AND + "ask tests\ninput q\n", 6, "question")
        with self.assertRaises(BadNetlist) as caught:
            run_job("ask tests\n" + AND)
        self.assertEqual((caught.exception.row, caught.exception.reason), (1, "end"))
        with self.assertRaises(BadNetlist):
            run_job("circuit c\noutput u\nask no\n")


if __name__ == "__main__":
    unittest.main()
