"""Jobs: netlists with questions, and the rows that answer them (points 1000 to 1003)."""

from probewright.breaks import is_break, stuck_breaks
from probewright.errors import BadJob
from probewright.findings import allowed
from probewright.generator import answer
from probewright.late import is_late, late_answer
from probewright.meaning import response
from probewright.netlists import parse
from probewright.papers import size_of
from probewright.testsets import build
from probewright.words import are_bits


def version_text(version):
    """Return the words of a version."""
    if version is None:
        return "right"
    return " ".join([str(item) for item in version])


def bits_text(bits):
    """Return the text of a pattern, a partial pattern or a response."""
    return "".join(["-" if item is None else str(item) for item in bits])


def _figure(word):
    """Return the number that a single figure spells, and every other word as it is."""
    return int(word) if len(word) == 1 and word in "0123456789" else word


def _version(circuit, row, words):
    if words == ["right"]:
        return None
    # No line and no kind is a figure, so that each word can be read alike.
    version = tuple([_figure(word) for word in words])
    if not is_break(circuit, version):
        raise BadJob(row, "break")
    return version


def _bits(row, text, count):
    bits = tuple([_figure(sign) for sign in text])
    if not are_bits(bits, count):
        raise BadJob(row, "bits")
    return bits


def _response_rows(circuit, row, words):
    version = _version(circuit, row, words[:-1])
    pattern = _bits(row, words[-1], len(circuit.sources()))
    return ["response " + bits_text(response(circuit, version, pattern))]


def _part_rows(circuit, row, words):
    if words.count("/") != 1:
        raise BadJob(row, "break")
    place = words.index("/")
    one = _version(circuit, row, words[:place])
    other = _version(circuit, row, words[place + 1:])
    word, found = answer(circuit, one, other)
    if word == "alike":
        return [f"alike {size_of(found)}"]
    return ["parted " + bits_text(found)]


def _late_rows(circuit, row, words):
    late = ("late", *[_figure(word) for word in words])
    if not is_late(circuit, late):
        raise BadJob(row, "break")
    found = late_answer(circuit, late)
    if found[0] == "pair":
        return ["pair " + bits_text(found[1]) + " " + bits_text(found[2])]
    return [f"{found[0]} {size_of(found[1])}"]


def _tests_rows(circuit, row, words):
    if len(words) > 0:
        raise BadJob(row, "break")
    _, patterns, papers = build(circuit, stuck_breaks(circuit))
    rows = [f"tests {len(patterns)} {len(papers)}"]
    rows.extend(["test " + bits_text(pattern) for pattern in patterns])
    rows.extend(["hidden " + version_text(entry[0]) for entry in papers])
    return rows


def _allowed_rows(circuit, row, words):
    patterns = []
    observed = []
    for word in words:
        if word.count("=") != 1:
            raise BadJob(row, "bits")
        pattern, _, seen = word.partition("=")
        patterns.append(_bits(row, pattern, len(circuit.sources())))
        observed.append(_bits(row, seen, len(circuit.sinks())))
    versions = [None, *stuck_breaks(circuit)]
    return ["allowed " + version_text(version) for version in allowed(circuit, versions, patterns, observed)]


_QUESTIONS = {
    "response": _response_rows,
    "part": _part_rows,
    "late": _late_rows,
    "tests": _tests_rows,
    "allowed": _allowed_rows,
}


def _answer_rows(circuit, row, question):
    """Return the rows that answer the question in the row with this number."""
    words = question.split(" ")
    if len(words) < 2 or words[0] != "ask" or words[1] not in _QUESTIONS or words[1:] == ["response"]:
        raise BadJob(row, "question")
    rows_for = _QUESTIONS[words[1]]
    return rows_for(circuit, row, words[2:])


def run_job(text):
    """Return the list of the rows that answer the questions of a job."""
    if not text.endswith("\n"):
        raise BadJob(len(text.split("\n")), "end")
    rows = text.split("\n")[:-1]
    asked = [place for place, row in enumerate(rows) if row.split(" ")[0] == "ask"]
    start = asked[0] if len(asked) > 0 else len(rows)
    _, circuit = parse("".join([row + "\n" for row in rows[:start]]))
    found = []
    for place in range(start, len(rows)):
        found.extend(_answer_rows(circuit, place + 1, rows[place]))
    return found
