"""Breaks of a circuit, and versions (point 200)."""

from probewright.errors import BadBreak
from probewright.words import is_bit, is_integer, is_name


def _is_line(circuit, value):
    return is_name(value) and value in circuit.lines()


def _is_stem(circuit, line, value):
    return _is_line(circuit, line) and is_bit(value)


def _is_pin(circuit, line, index, value):
    # Only a string is looked up: a list, for one, cannot be a key.
    if not is_name(line) or line not in circuit.gate_of:
        return False
    pins = circuit.gate_of[line][2]
    return is_integer(index, 0, len(pins) - 1) and is_bit(value)


def _is_short(circuit, one, other, kind):
    if not isinstance(kind, str) or kind not in ("and", "or"):
        return False
    if not _is_line(circuit, one) or not _is_line(circuit, other):
        return False
    return one < other and one not in circuit.above(other) and other not in circuit.above(one)


def is_break(circuit, value):
    """Tell whether a value is a break of the circuit."""
    if not isinstance(value, tuple) or len(value) not in (3, 4):
        return False
    word = value[0]
    if not isinstance(word, str):
        return False
    if len(value) == 3:
        return word == "stem" and _is_stem(circuit, value[1], value[2])
    if word == "pin":
        return _is_pin(circuit, value[1], value[2], value[3])
    return word == "short" and _is_short(circuit, value[1], value[2], value[3])


def check_version(circuit, version):
    """Raise BadBreak unless the value is None or a break of the circuit."""
    if version is not None and not is_break(circuit, version):
        raise BadBreak("not a version of the circuit")


def stuck_breaks(circuit):
    """Return all stems in the order of the lines, then all pins in that of the gates."""
    stems = [("stem", line, bit) for line in circuit.lines() for bit in (0, 1)]
    pins = [
        ("pin", line, index, bit)
        for line, kind, lines in circuit.gates
        for index in range(len(lines))
        for bit in (0, 1)
    ]
    return stems + pins


def shorts(circuit):
    """Return all shorts, in the order of the tuples."""
    lines = sorted(circuit.lines())
    above = {line: circuit.above(line) for line in lines}
    found = []
    for place, one in enumerate(lines):
        for other in lines[place + 1:]:
            if one not in above[other] and other not in above[one]:
                found.append(("short", one, other, "and"))
                found.append(("short", one, other, "or"))
    return found
