"""Circuits of gates and registers (points 103 to 107)."""

from probewright.errors import BadCircuit
from probewright.limits import MOST_LINES, MOST_PINS, MOST_SOURCES
from probewright.words import is_name

KINDS = ("and", "or", "nand", "nor", "xor", "xnor", "not", "buf", "low", "high")

# The kinds whose value is the contrary of that of another kind.
CONTRARY = ("nand", "nor", "xnor", "not", "high")


def _may_have(kind, count):
    """Tell whether a gate of this kind may have so many pins."""
    if kind in ("low", "high"):
        return count == 0
    if kind in ("not", "buf"):
        return count == 1
    return 1 <= count <= MOST_PINS


def _are_names(items):
    return all([is_name(item) for item in items])


def _is_register(value):
    return isinstance(value, tuple) and len(value) == 2 and _are_names(value)


def is_gate(value):
    """Tell whether a value has the form of a gate, whatever lines there are."""
    if not isinstance(value, tuple) or len(value) != 3:
        return False
    line, kind, pins = value
    if not isinstance(kind, str) or kind not in KINDS:
        return False
    if not isinstance(pins, tuple) or not _may_have(kind, len(pins)):
        return False
    return _are_names([line, *pins])


def _check_form(inputs, registers, gates, outputs):
    if not _are_names(inputs) or not _are_names(outputs):
        raise BadCircuit("form", "")
    if not all([_is_register(item) for item in registers]):
        raise BadCircuit("form", "")
    if not all([is_gate(item) for item in gates]):
        raise BadCircuit("form", "")


def _check_driven_once(lines):
    seen = set()
    for line in lines:
        if line in seen:
            raise BadCircuit("twice", line)
        seen.add(line)


def _check_known(lines, names):
    known = set(lines)
    for name in names:
        if name not in known:
            raise BadCircuit("unknown", name)


def _check_size(lines, sources):
    if len(lines) > MOST_LINES or len(sources) > MOST_SOURCES:
        raise BadCircuit("size", "")


def _in_order(sources, gates):
    """Return the gates, each behind those that drive its pins."""
    known = {line: True for line in sources}
    found = []
    waiting = list(gates)
    while waiting:
        left = []
        for gate in waiting:
            if all([pin in known for pin in gate[2]]):
                known[gate[0]] = True
                found.append(gate)
            else:
                left.append(gate)
        # What never becomes known lies on a loop or is led to by one.
        if len(left) == len(waiting):
            raise BadCircuit("loop", left[0][0])
        waiting = left
    return found


class Circuit:
    """A circuit; its parts are checked when it is made (point 106)."""

    def __init__(self, inputs, registers, gates, outputs):
        self.inputs = tuple(inputs)
        self.registers = tuple(registers)
        self.gates = tuple(gates)
        self.outputs = tuple(outputs)
        _check_form(self.inputs, self.registers, self.gates, self.outputs)
        _check_driven_once(self.lines())
        pins = [pin for gate in self.gates for pin in gate[2]]
        taken = [pair[1] for pair in self.registers]
        _check_known(self.lines(), [*pins, *taken, *self.outputs])
        _check_size(self.lines(), self.sources())
        self.gate_of = {gate[0]: gate for gate in self.gates}
        self.order = _in_order(self.sources(), self.gates)

    def lines(self):
        """Return a new list of the lines: the sources, then those of the gates."""
        return [*self.sources(), *[gate[0] for gate in self.gates]]

    def sources(self):
        """Return a new list of the inputs and the lines of the registers."""
        return [*self.inputs, *[pair[0] for pair in self.registers]]

    def sinks(self):
        """Return a new list of the outputs and the lines that registers take."""
        return [*self.outputs, *[pair[1] for pair in self.registers]]

    def above(self, line):
        """Return a new dict of the lines that lead to a line, and that line."""
        found = {line: True}
        waiting = [line]
        while waiting:
            # Nothing leads to a source: only gates pass values on (point 107).
            gate = self.gate_of.get(waiting.pop(), ("", "low", ()))
            for pin in gate[2]:
                if pin not in found:
                    found[pin] = True
                    waiting.append(pin)
        return found

    def parts(self):
        """Return the tuple of the inputs, registers, gates and outputs."""
        return (self.inputs, self.registers, self.gates, self.outputs)
