"""What observed responses tell of the version of a circuit (points 800 to 802)."""

from probewright.errors import BadPattern
from probewright.generator import answer
from probewright.many import Trial, check_tried
from probewright.papers import filled
from probewright.words import are_bits


def _check_observed(circuit, patterns, observed):
    if not isinstance(observed, (list, tuple)) or len(observed) != len(patterns):
        raise BadPattern("not one response for each pattern")
    for row in observed:
        if not are_bits(row, len(circuit.sinks())):
            raise BadPattern("not a response of the circuit")


def allowed(circuit, versions, patterns, observed):
    """Return the versions whose responses to the patterns are the observed ones."""
    check_tried(circuit, versions, patterns)
    _check_observed(circuit, patterns, observed)
    trial = Trial(circuit, patterns)
    rows = list(observed)
    return [version for version in versions if trial.responses(version) == rows]


def groups(circuit, versions, patterns):
    """Return the list of the groups of versions with the same responses to all patterns."""
    check_tried(circuit, versions, patterns)
    trial = Trial(circuit, patterns)
    found = {}
    for version in versions:
        found.setdefault(tuple(trial.responses(version)), []).append(version)
    return list(found.values())


def next_pattern(circuit, versions):
    """Return a pattern that parts two of the versions, or papers that none does."""
    check_tried(circuit, versions, [])
    papers = []
    for version in versions[1:]:
        word, found = answer(circuit, versions[0], version)
        if word == "parted":
            return ("pattern", filled(circuit, found, 0))
        papers.append(found)
    return ("alike", papers)


class Finder:
    """The versions that are left of a list, behind the responses that have been told."""

    def __init__(self, circuit, versions):
        check_tried(circuit, versions, [])
        self.circuit = circuit
        self.left = list(versions)

    def ask(self):
        """Return a pattern that parts two of the versions that are left, or None."""
        word, found = next_pattern(self.circuit, self.left)
        return found if word == "pattern" else None

    def tell(self, pattern, row):
        """Keep the versions that the observed response to a pattern allows."""
        self.left = allowed(self.circuit, self.left, [pattern], [row])

    def versions(self):
        """Return a new list of the versions that are left."""
        return list(self.left)
