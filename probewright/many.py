"""Many patterns at once (point 203).

The bit with the index `k` of a word belongs to the pattern with that index,
so that one operation on words does all patterns together.
"""

from probewright.breaks import check_version
from probewright.circuits import CONTRARY
from probewright.meaning import check_pattern


def _check(circuit, versions, patterns):
    """Look at all versions ahead of all patterns."""
    for version in versions:
        check_version(circuit, version)
    for pattern in patterns:
        check_pattern(circuit, pattern)


def _gate_word(kind, words, full):
    """Return the word of a gate; `full` has a bit for each pattern."""
    if kind in ("and", "nand"):
        found = full
        for word in words:
            found &= word
    elif kind in ("or", "nor"):
        found = 0
        for word in words:
            found |= word
    else:
        # Of one pin this is the pin itself, and of no pins it is 0.
        found = 0
        for word in words:
            found ^= word
    return found ^ full if kind in CONTRARY else found


def _source_words(circuit, patterns):
    """Return a dict from the sources to their words in the right circuit."""
    found = {line: 0 for line in circuit.sources()}
    for k, pattern in enumerate(patterns):
        for line, bit in zip(circuit.sources(), pattern):
            found[line] |= bit << k
    return found


def _forced(circuit, version, given, full):
    """Return the lines whose own words a version replaces, with the new ones."""
    if version is None or version[0] == "pin":
        return {}
    if version[0] == "stem":
        return {version[1]: full * version[2]}
    # Neither line leads to the other one, so that both are driven as in the
    # right circuit.
    right = _words(circuit, None, given, full)
    _, one, other, kind = version
    word = _gate_word(kind, [right[one], right[other]], full)
    return {one: word, other: word}


def _words(circuit, version, given, full):
    """Return the words of all lines for the words that the sources are given."""
    forced = _forced(circuit, version, given, full)
    found = {}
    for line, word in given.items():
        found[line] = forced.get(line, word)
    for line, kind, pins in circuit.order:
        words = [found[pin] for pin in pins]
        if version is not None and version[:2] == ("pin", line):
            words[version[2]] = full * version[3]
        found[line] = forced.get(line, _gate_word(kind, words, full))
    return found


def _words_for(circuit, version, patterns):
    """Do what `words_of` does, for arguments that have been checked."""
    full = (1 << len(patterns)) - 1
    return _words(circuit, version, _source_words(circuit, patterns), full)


def words_of(circuit, version, patterns):
    """Return a dict from all lines of a version to their words for patterns."""
    _check(circuit, [version], patterns)
    return _words_for(circuit, version, patterns)


def responses(circuit, version, patterns):
    """Return the list of the responses of a version to patterns."""
    words = words_of(circuit, version, patterns)
    sinks = [words[line] for line in circuit.sinks()]
    return [tuple([word >> k & 1 for word in sinks]) for k in range(len(patterns))]


def parting(circuit, one, other, patterns):
    """Return the ascending indices of the patterns that part two versions."""
    _check(circuit, [one, other], patterns)
    first = _words_for(circuit, one, patterns)
    second = _words_for(circuit, other, patterns)
    parts = 0
    for line in circuit.sinks():
        parts |= first[line] ^ second[line]
    return [k for k in range(len(patterns)) if parts >> k & 1]
