"""Netlists: the texts of circuits (points 108 to 110)."""

from probewright.circuits import Circuit, is_gate
from probewright.errors import BadCircuit, BadNetlist
from probewright.words import is_name


def _gate(words):
    """Return what the words of a row `gate` tell, whether a gate or not."""
    return (words[1], words[2], tuple(words[3:]))


def _is_row(words):
    """Tell whether a row has as many words as its first word asks for."""
    if words[0] == "circuit":
        return len(words) == 2
    if words[0] == "register":
        return len(words) == 3
    if words[0] in ("input", "output"):
        return len(words) > 1
    return words[0] == "gate"


def _check_row(row, words):
    """Check the row with this number for all that point 109 lists."""
    # Row 1 is the row `circuit`, or it is refused here.
    if (words[0] == "circuit") != (row == 1):
        raise BadNetlist(row, "circuit")
    if words[0] == "gate" and (len(words) < 3 or not is_gate(_gate(words))):
        raise BadNetlist(row, "gate")
    if not all([is_name(word) for word in words[1:]]):
        raise BadNetlist(row, "name")
    if not _is_row(words):
        raise BadNetlist(row, "row")


def _circuit(rows):
    """Make the circuit of rows that have been checked."""
    inputs = []
    registers = []
    gates = []
    outputs = []
    for words in rows:
        if words[0] == "input":
            inputs.extend(words[1:])
        elif words[0] == "register":
            registers.append(tuple(words[1:]))
        elif words[0] == "gate":
            gates.append(_gate(words))
        elif words[0] == "output":
            outputs.extend(words[1:])
    try:
        return Circuit(inputs, registers, gates, outputs)
    except BadCircuit as error:
        raise BadNetlist(0, error.reason) from None


def parse(text):
    """Read a netlist, and return the pair of its name and its circuit."""
    # A text that ends with a newline has a row. So there is a row `circuit`
    # behind the check of the first row, and nothing is left to ask for it.
    if not text.endswith("\n"):
        raise BadNetlist(len(text.split("\n")), "end")
    rows = [row.split(" ") for row in text.split("\n")[:-1]]
    for row, words in enumerate(rows, start=1):
        _check_row(row, words)
    return (rows[0][1], _circuit(rows))


def text_of(name, circuit):
    """Return the canonical text of a circuit with a name."""
    rows = [["circuit", name]]
    rows.extend([["input", line] for line in circuit.inputs])
    rows.extend([["register", line, taken] for line, taken in circuit.registers])
    rows.extend([["gate", line, kind, *pins] for line, kind, pins in circuit.gates])
    rows.extend([["output", line] for line in circuit.outputs])
    return "".join([" ".join(words) + "\n" for words in rows])
