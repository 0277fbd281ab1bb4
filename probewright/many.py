"""Many patterns at once (point 203).

The bit with the index `k` of a word belongs to the pattern with that index,
so that one operation on words does all patterns together.
"""

from probewright.breaks import check_version
from probewright.circuits import CONTRARY
from probewright.meaning import check_pattern


def check_tried(circuit, versions, patterns):
    """Raise BadBreak unless all versions are some, and then BadPattern unless all patterns are."""
    for version in versions:
        check_version(circuit, version)
    for pattern in patterns:
        check_pattern(circuit, pattern)


def indexes_of(word):
    """Return the ascending list of the indexes of the bits of a word that are 1."""
    return [k for k in range(word.bit_length()) if word >> k & 1]


def _gate_word(kind, words, full):
    """Return the word of a gate; `full` has a bit for each pattern."""
    if kind in ("and", "nand"):
        found = full
        for word in words:
            found &= word
    elif kind in ("or", "nor"):
        found = 0
        for word in words:
            found |= word
    else:
        # Of one pin this is the pin itself, and of no pins it is 0.
        found = 0
        for word in words:
            found ^= word
    return found ^ full if kind in CONTRARY else found


def _source_words(circuit, patterns):
    """Return a dict from the sources to their words in the right circuit."""
    found = {line: 0 for line in circuit.sources()}
    for k, pattern in enumerate(patterns):
        for line, bit in zip(circuit.sources(), pattern):
            found[line] |= bit << k
    return found


def _forced(circuit, version, given, full):
    """Return the lines whose own words a version replaces, with the new ones."""
    if version is None or version[0] == "pin":
        return {}
    if version[0] == "stem":
        return {version[1]: full * version[2]}
    # Neither line leads to the other one, so that both are driven as in the
    # right circuit.
    right = _words(circuit, None, given, full)
    _, one, other, kind = version
    word = _gate_word(kind, [right[one], right[other]], full)
    return {one: word, other: word}


def _words(circuit, version, given, full):
    """Return the words of all lines for the words that the sources are given."""
    forced = _forced(circuit, version, given, full)
    found = {}
    for line, word in given.items():
        found[line] = forced.get(line, word)
    for line, kind, pins in circuit.order:
        words = [found[pin] for pin in pins]
        if version is not None and version[:2] == ("pin", line):
            words[version[2]] = full * version[3]
        found[line] = forced.get(line, _gate_word(kind, words, full))
    return found


class Trial:
    """Patterns that versions are tried with; the right circuit is tried once for all.

    What its methods are passed is not checked.
    """

    def __init__(self, circuit, patterns):
        self.circuit = circuit
        self.many = len(patterns)
        self.given = _source_words(circuit, patterns)
        self.right = self.words(None)

    def words(self, version):
        """Return a dict from all lines of a version to their words."""
        return _words(self.circuit, version, self.given, (1 << self.many) - 1)

    def take(self, pattern):
        """Take one more pattern, behind the others."""
        for line, bit in zip(self.circuit.sources(), pattern):
            self.given[line] |= bit << self.many
        self.many += 1
        self.right = self.words(None)

    def responses(self, version):
        """Return the list of the responses of a version."""
        found = self.words(version)
        sinks = [found[line] for line in self.circuit.sinks()]
        return [tuple([word >> k & 1 for word in sinks]) for k in range(self.many)]

    def showing(self, version):
        """Return the word of the patterns that part a version from the right circuit."""
        return _parting_word(self.circuit, self.right, self.words(version))


def _parting_word(circuit, one, other):
    """Return the word of the patterns for which a sink has unequal values."""
    found = 0
    for line in circuit.sinks():
        found |= one[line] ^ other[line]
    return found


def words_of(circuit, version, patterns):
    """Return a dict from all lines of a version to their words for patterns."""
    check_tried(circuit, [version], patterns)
    return Trial(circuit, patterns).words(version)


def responses(circuit, version, patterns):
    """Return the list of the responses of a version to patterns."""
    check_tried(circuit, [version], patterns)
    return Trial(circuit, patterns).responses(version)


def parting(circuit, one, other, patterns):
    """Return the ascending indices of the patterns that part two versions."""
    check_tried(circuit, [one, other], patterns)
    trial = Trial(circuit, patterns)
    word = _parting_word(circuit, trial.words(one), trial.words(other))
    return indexes_of(word)
