"""What a version of a circuit does with a pattern (points 201 and 202)."""

from probewright.breaks import check_version
from probewright.circuits import CONTRARY
from probewright.errors import BadPattern
from probewright.words import are_bits


def check_pattern(circuit, pattern):
    """Raise BadPattern unless the value is a pattern of the circuit."""
    if not are_bits(pattern, len(circuit.sources())):
        raise BadPattern("not a pattern of the circuit")


def gate_value(kind, bits):
    """Return the value of a gate for the values of its pins."""
    if kind in ("and", "nand"):
        value = 0 if 0 in bits else 1
    elif kind in ("or", "nor"):
        value = 1 if 1 in bits else 0
    else:
        # The sum of one pin is the pin itself, and that of no pins is 0.
        value = sum(bits) & 1
    return 1 - value if kind in CONTRARY else value


def _forced(circuit, version, pattern):
    """Return the lines whose own values a version replaces, with the new ones."""
    if version is None or version[0] == "pin":
        return {}
    if version[0] == "stem":
        return {version[1]: version[2]}
    # Neither line leads to the other one, so that both are driven as in the
    # right circuit.
    right = _values(circuit, None, pattern)
    _, one, other, kind = version
    value = gate_value(kind, [right[one], right[other]])
    return {one: value, other: value}


def _values(circuit, version, pattern):
    """Do what `values` does, for a version and a pattern that have been checked."""
    forced = _forced(circuit, version, pattern)
    found = {}
    for line, bit in zip(circuit.sources(), pattern):
        found[line] = forced.get(line, bit)
    for line, kind, pins in circuit.order:
        bits = [found[pin] for pin in pins]
        if version is not None and version[:2] == ("pin", line):
            bits[version[2]] = version[3]
        found[line] = forced.get(line, gate_value(kind, bits))
    return found


def values(circuit, version, pattern):
    """Return a dict from all lines of a version to their values for a pattern."""
    check_version(circuit, version)
    check_pattern(circuit, pattern)
    return _values(circuit, version, pattern)


def response(circuit, version, pattern):
    """Return the tuple of the values of the sinks of a version for a pattern."""
    found = values(circuit, version, pattern)
    return tuple([found[line] for line in circuit.sinks()])


def parted(circuit, one, other, pattern):
    """Tell whether the responses of two versions to a pattern differ."""
    # Both versions are looked at ahead of the pattern.
    check_version(circuit, one)
    check_version(circuit, other)
    return response(circuit, one, pattern) != response(circuit, other, pattern)
