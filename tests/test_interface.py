"""Tests of the section "The interface": names, arguments and files."""

import importlib
import inspect
import unittest

FUNCTIONS = {
    "words": ["is_integer(value, least, greatest)", "is_bit(value)", "is_name(value)", "are_bits(value, count)"],
    "netlists": ["parse(text)", "text_of(name, circuit)"],
    "breaks": ["is_break(circuit, value)", "check_version(circuit, version)", "stuck_breaks(circuit)",
               "shorts(circuit)"],
    "meaning": ["values(circuit, version, pattern)", "response(circuit, version, pattern)",
                "parted(circuit, one, other, pattern)", "check_pattern(circuit, pattern)", "gate_value(kind, bits)"],
    "many": ["words_of(circuit, version, patterns)", "responses(circuit, version, patterns)",
             "parting(circuit, one, other, patterns)"],
    "pairs": ["gate_mark(kind, marks)", "marks_of(circuit, one, other, partial)",
              "sink_marks(circuit, one, other, partial)", "check_partial(circuit, partial)"],
    "papers": ["check_paper(circuit, one, other, paper)", "size_of(paper)", "empty_partial(circuit)",
               "with_bit(partial, index, bit)", "filled(circuit, partial, bit)", "agree(one, other)",
               "together(one, other)"],
    "generator": ["answer(circuit, one, other)"],
    "classes": ["uses(circuit)", "joined_classes(circuit)", "representatives(circuit)",
                "exact_classes(circuit, versions)", "check_classes(circuit, versions, finding)"],
    "testsets": ["table(circuit, breaks, patterns)", "drop(circuit, breaks, patterns)", "build(circuit, breaks)",
                 "complete(circuit, breaks, patterns)", "is_finished(circuit, breaks, patterns, papers)",
                 "merge(partials)", "thin(circuit, breaks, patterns)", "smallest(rows, count)"],
    "chain": ["chains(circuit, count)", "is_step(circuit, count, value)",
              "run(circuit, version, count, start, program)", "program_of(circuit, count, patterns)",
              "read_back(circuit, count, log)"],
    "signatures": ["added(one, other)", "hidden(press, one, other)", "lost(circuit, breaks, patterns, press)"],
    "findings": ["allowed(circuit, versions, patterns, observed)", "groups(circuit, versions, patterns)",
                 "next_pattern(circuit, versions)"],
    "late": ["is_late(circuit, value)", "late_response(circuit, late, first, second)",
             "shows_late(circuit, late, first, second)", "reach(circuit, line, bit, partial)",
             "check_never(circuit, line, bit, partial, paper)", "late_answer(circuit, late)",
             "check_late_paper(circuit, late, found)"],
    "jobs": ["run_job(text)", "version_text(version)", "bits_text(bits)"],
}

CLASSES = {
    "circuits": {
        "Circuit": ["__init__(self, inputs, registers, gates, outputs)", "lines(self)", "sources(self)",
                    "sinks(self)", "above(self, line)", "parts(self)"],
    },
    "chain": {
        "Tester": ["__init__(self, circuit, version, count, start)", "stored(self)", "shift(self, bits)",
                   "look(self, inputs)", "clock(self, inputs)"],
    },
    "signatures": {
        "Press": ["__init__(self, width, taps)", "step(self, state, word)", "fold(self, response)",
                  "press(self, words)", "signature(self, table)", "blind(self, count)", "period(self)"],
    },
    "findings": {
        "Finder": ["__init__(self, circuit, versions)", "ask(self)", "tell(self, pattern, row)", "versions(self)"],
    },
}


def written(name, function):
    return name + str(inspect.signature(function))


class Interface(unittest.TestCase):
    def test_functions(self):
        for module, rows in FUNCTIONS.items():
            found = importlib.import_module("probewright." + module)
            for row in rows:
                with self.subTest(module=module, row=row):
                    name = row.partition("(")[0]
                    function = getattr(found, name)
                    self.assertEqual(written(name, function), row)
                    self.assertEqual(function.__module__, "probewright." + module)

    def test_classes(self):
        for module, classes in CLASSES.items():
            found = importlib.import_module("probewright." + module)
            for name, rows in classes.items():
                kind = getattr(found, name)
                self.assertEqual(kind.__module__, "probewright." + module)
                for row in rows:
                    with self.subTest(kind=name, row=row):
                        method = row.partition("(")[0]
                        # In the class itself, not only in a base class.
                        self.assertEqual(written(method, vars(kind)[method]), row)

    def test_constants(self):
        circuits = importlib.import_module("probewright.circuits")
        pairs = importlib.import_module("probewright.pairs")
        self.assertIs(type(circuits.KINDS), tuple)
        self.assertIs(type(pairs.EQUAL), int)
        self.assertIs(type(pairs.UNEQUAL), int)
        for module, name in (("testsets", "MOST_CHOICES"), ("signatures", "MOST_PERIOD")):
            self.assertEqual(vars(importlib.import_module("probewright." + module))[name], 16)


if __name__ == "__main__":
    unittest.main()
