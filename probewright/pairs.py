"""Pair sets: what two versions do with a partial pattern (points 300 to 303).

A pair `(a, b)` is kept here as the number `2 * a + b`: the bit of a pair set
with this index stands for it, and an operation on the bits of such numbers
works on both sides of the pairs at once.
"""

from probewright.breaks import check_version
from probewright.circuits import CONTRARY
from probewright.errors import BadPattern
from probewright.words import is_bit

EQUAL = 9
UNEQUAL = 6

# The pairs that each pair set has; the one with the index 0 would be empty.
_PAIRS = (
    (), (0,), (1,), (0, 1), (2,), (0, 2), (1, 2), (0, 1, 2),
    (3,), (0, 3), (1, 3), (0, 1, 3), (2, 3), (0, 2, 3), (1, 2, 3), (0, 1, 2, 3),
)


def check_partial(circuit, partial):
    """Raise BadPattern unless the value is a partial pattern of the circuit."""
    if not isinstance(partial, tuple) or len(partial) != len(circuit.sources()):
        raise BadPattern("not a partial pattern of the circuit")
    if not all([item is None or is_bit(item) for item in partial]):
        raise BadPattern("not a partial pattern of the circuit")


def _joined(kind, one, other):
    """Put two pair sets together, as if what they belong to were independent."""
    found = 0
    for left in _PAIRS[one]:
        for right in _PAIRS[other]:
            if kind in ("and", "nand"):
                found |= 1 << (left & right)
            elif kind in ("or", "nor"):
                found |= 1 << (left | right)
            else:
                found |= 1 << (left ^ right)
    return found


def _contrary(mark):
    """Return the pair set with the contrary on both sides of every pair."""
    return sum([1 << (3 - pair) for pair in _PAIRS[mark]])


def gate_mark(kind, marks):
    """Return the pair set of a gate for the pair sets that its pins see."""
    if kind == "low":
        return 1
    if kind == "high":
        return 8
    mark = marks[0]
    for other in marks[1:]:
        mark = _joined(kind, mark, other)
    return _contrary(mark) if kind in CONTRARY else mark


def replaced(mark, side, bits):
    """Replace one side of every pair by every one of the bits."""
    found = 0
    for pair in _PAIRS[mark]:
        first, second = divmod(pair, 2)
        for bit in bits:
            if side == 0:
                found |= 1 << (2 * bit + second)
            else:
                found |= 1 << (2 * first + bit)
    return found


def short_bits(kind, one, other):
    """Return the values of a short for the pair sets of its lines in the right circuit."""
    mark = gate_mark(kind, [one, other])
    # Two right circuits have equal pairs only, which are the numbers 0 and 3.
    return [bit for bit in (0, 1) if 3 * bit in _PAIRS[mark]]


def _forced(circuit, version, partial):
    """Return the lines that a version changes, with the values that they may have."""
    if version is None or version[0] == "pin":
        return {}
    if version[0] == "stem":
        return {version[1]: [version[2]]}
    right = plain_marks(circuit, None, None, partial)
    _, one, other, kind = version
    bits = short_bits(kind, right[one], right[other])
    return {one: bits, other: bits}


def _line_mark(line, mark, forced):
    """Return the pair set of a line that would have `mark` if it were not changed."""
    for side in (0, 1):
        if line in forced[side]:
            mark = replaced(mark, side, forced[side][line])
    return mark


def _pin_marks(gate, found, versions):
    """Return the list of the pair sets that a gate sees at its pins."""
    marks = [found[pin] for pin in gate[2]]
    for side in (0, 1):
        version = versions[side]
        if version is not None and version[:2] == ("pin", gate[0]):
            marks[version[2]] = replaced(marks[version[2]], side, [version[3]])
    return marks


def source_mark(item):
    """Return the pair set of a source that is 0, 1 or open."""
    if item is None:
        return EQUAL
    return 8 if item == 1 else 1


def plain_marks(circuit, one, other, partial):
    """Do what `marks_of` does, for arguments that have been checked."""
    forced = (_forced(circuit, one, partial), _forced(circuit, other, partial))
    found = {}
    for line, item in zip(circuit.sources(), partial):
        found[line] = _line_mark(line, source_mark(item), forced)
    for gate in circuit.order:
        marks = _pin_marks(gate, found, (one, other))
        found[gate[0]] = _line_mark(gate[0], gate_mark(gate[1], marks), forced)
    return found


def marks_of(circuit, one, other, partial):
    """Return a dict from all lines to their pair sets for two versions."""
    check_version(circuit, one)
    check_version(circuit, other)
    check_partial(circuit, partial)
    return plain_marks(circuit, one, other, partial)


def sink_marks(circuit, one, other, partial):
    """Return the list of the pair sets of the sinks for two versions."""
    marks = marks_of(circuit, one, other, partial)
    return [marks[line] for line in circuit.sinks()]
