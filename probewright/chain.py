"""The chains of the registers, and a tester that clocks circuits through them (points 600 to 606)."""

from probewright.breaks import check_version
from probewright.errors import BadTester
from probewright.limits import MOST_PATTERNS
from probewright.meaning import check_pattern, response
from probewright.words import are_bits, is_integer


def chains(circuit, count):
    """Return the list of the chains, each as the tuple of the indexes of its registers."""
    size = len(circuit.registers)
    if not is_integer(count, 1, max(1, size)):
        raise BadTester("no such number of chains")
    found = []
    start = 0
    for place in range(count):
        end = start + size // count + (1 if place < size % count else 0)
        found.append(tuple(range(start, end)))
        start = end
    return found


def _check_bits(bits, count):
    if not are_bits(bits, count):
        raise BadTester("not a tuple of so many bits")


class Tester:
    """A version of a circuit with bits in its registers, and its chains."""

    def __init__(self, circuit, version, count, start):
        check_version(circuit, version)
        _check_bits(start, len(circuit.registers))
        self.circuit = circuit
        self.version = version
        self.chains = chains(circuit, count)
        self.held = start

    def stored(self):
        """Return the tuple of what the registers hold."""
        return self.held

    def shift(self, bits):
        """Move all chains by one register, and return what falls out of each."""
        _check_bits(bits, len(self.chains))
        held = []
        log = []
        # The chains follow one another in the order of the registers.
        for bit, chain in zip(bits, self.chains):
            moved = [bit, *[self.held[index] for index in chain]]
            held.extend(moved[:-1])
            log.append(moved[-1])
        self.held = tuple(held)
        return tuple(log)

    def _response(self, inputs):
        _check_bits(inputs, len(self.circuit.inputs))
        return response(self.circuit, self.version, inputs + self.held)

    def look(self, inputs):
        """Return the values of the outputs."""
        return self._response(inputs)[:len(self.circuit.outputs)]

    def clock(self, inputs):
        """Return the values of the outputs, behind which the registers take their values."""
        found = self._response(inputs)
        many = len(self.circuit.outputs)
        self.held = found[many:]
        return found[:many]


def is_step(circuit, count, value):
    """Tell whether a value is a step for so many chains."""
    if not isinstance(value, tuple) or len(value) != 2 or not isinstance(value[0], str):
        return False
    if value[0] == "shift":
        return are_bits(value[1], count)
    return value[0] in ("look", "clock") and are_bits(value[1], len(circuit.inputs))


def run(circuit, version, count, start, program):
    """Run the steps of a program, and return the list of what they log."""
    tester = Tester(circuit, version, count, start)
    for step in program:
        if not is_step(circuit, count, step):
            raise BadTester("not a step")
    log = []
    for word, bits in program:
        if word == "shift":
            log.append(tester.shift(bits))
        elif word == "look":
            log.append(tester.look(bits))
        else:
            log.append(tester.clock(bits))
    return log


def program_of(circuit, count, patterns):
    """Return the list of the steps that apply patterns one after another."""
    found = chains(circuit, count)
    if len(patterns) > MOST_PATTERNS:
        raise BadTester("too many patterns")
    for pattern in patterns:
        check_pattern(circuit, pattern)
    longest = len(found[0])
    many = len(circuit.inputs)
    program = []
    for pattern in patterns:
        bits = pattern[many:]
        for place in reversed(range(longest)):
            # What goes in first gets to the register with the greatest index.
            program.append(("shift", tuple([bits[chain[place]] if place < len(chain) else 0 for chain in found])))
        program.append(("clock", pattern[:many]))
    program.extend([("shift", (0,) * count)] * longest)
    return program


def _check_log(circuit, count, longest, log):
    """Check the length and the entries of a log, and return the number of its patterns."""
    # A log that is too short for the first shifts leaves a rest, too.
    many, rest = divmod(len(log) - longest, longest + 1)
    if many > MOST_PATTERNS or rest > 0:
        raise BadTester("not the length of a log")
    for place, entry in enumerate(log):
        is_clock = (place - longest) % (longest + 1) == 0
        _check_bits(entry, len(circuit.outputs) if is_clock else count)
    return many


def read_back(circuit, count, log):
    """Return the list of the responses that the log of a program of patterns tells."""
    found = chains(circuit, count)
    longest = len(found[0])
    many = _check_log(circuit, count, longest, log)
    rows = []
    for k in range(many):
        place = longest + k * (longest + 1)
        taken = []
        for number, chain in enumerate(found):
            # The last register of a chain leaves first.
            leaving = [log[place + 1 + back][number] for back in range(len(chain))]
            taken.extend(leaving[::-1])
        rows.append(log[place] + tuple(taken))
    return rows
