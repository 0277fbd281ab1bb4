"""Circuits, and values that are none of what the program takes, for the tests."""

from unittest.mock import ANY

from oracle import leads, lines_of

HALF = (("a", "b"), (), (("s", "xor", ("a", "b")), ("c", "and", ("a", "b"))), ("s", "c"))

# Point 305's example: `x` is always 0, though a line reaches it in two ways.
TWO_WAYS = (
    ("a", "b"),
    (),
    (("n", "not", ("a",)), ("x", "and", ("a", "n")), ("y", "or", ("x", "b"))),
    ("y",),
)

# All ten kinds, 0 to 4 pins, a line at several pins of a gate, registers that
# take a gate, a source and each other, an output twice, gates that stand
# ahead of those that drive their pins.
TEN = (
    ("a", "b", "c"),
    (("p", "nor3"), ("q", "p"), ("r", "a"), ("t", "t")),
    (
        ("nor3", "nor", ("and2", "xnor2", "q")),
        ("and2", "and", ("a", "or4")),
        ("or4", "or", ("b", "c", "b", "lo")),
        ("lo", "low", ()),
        ("hi", "high", ()),
        ("nand3", "nand", ("a", "a", "hi")),
        ("xnor2", "xnor", ("p", "nand3")),
        ("xor4", "xor", ("a", "r", "a", "b")),
        ("not1", "not", ("xor4",)),
        ("buf1", "buf", ("not1",)),
        ("and1", "and", ("t",)),
        ("nor1", "nor", ("q",)),
    ),
    ("buf1", "nor3", "and1", "nor1", "buf1", "a"),
)

# Every pair of lines can be shorted here but those of a gate and its pin.
WIDE = (
    ("a", "b", "c"),
    (("k", "y"),),
    (
        ("x", "and", ("a", "b")),
        ("y", "nor", ("b", "c")),
        ("z", "xor", ("x", "y", "k")),
        ("w", "nand", ("x", "x", "c")),
    ),
    ("z", "w"),
)

# The lines of the last gate know each other through two shared sources.
NARROW = (
    ("a", "b"),
    (),
    (("m", "xnor", ("a", "b")), ("n", "or", ("a", "a", "b")), ("o", "and", ("m", "n", "high1")),
     ("high1", "high", ())),
    ("o", "m"),
)

NO_GATES = (("a", "b"), (("p", "a"), ("q", "p")), (), ("b", "b", "q"))

ONLY_CONSTANTS = ((), (), (("h", "high", ()), ("l", "low", ()), ("n", "nand", ("h", "l"))), ("n", "l"))

NOTHING = ((), (), (), ())

# Lines that are called like kinds, versions and questions.
NAMED = (
    ("or", "right", "and"),
    (("ask", "short"),),
    (("stem", "nand", ("and", "or")), ("pin", "xor", ("stem", "right", "ask")), ("short", "or", ("pin", "stem", "or")),
     ("late", "and", ("ask", "and"))),
    ("pin", "short", "late"),
)

ALL = (HALF, TWO_WAYS, TEN, WIDE, NARROW, NO_GATES, ONLY_CONSTANTS, NOTHING, NAMED)

SMALL = (HALF, TWO_WAYS, WIDE, NARROW, ONLY_CONSTANTS, NOTHING, NAMED)

# Values of other kinds, that are in no way a part, a break or a paper. ANY is
# equal to everything.
STRANGE = [
    ANY, (ANY,), (ANY,) * 2, (ANY,) * 3, (ANY,) * 4,
    None, True, False, 0, 1, -1, 7, 0.5, "", "a", "stem", b"stem", (), ((),), [], [[]], {}, {"a": 1},
    set(), object(), len, range(3),
]


def stems(parts):
    return [("stem", line, bit) for line in lines_of(parts) for bit in (0, 1)]


def pins(parts):
    found = []
    for line, _, at_pins in parts[2]:
        for index in range(len(at_pins)):
            found.extend([("pin", line, index, 0), ("pin", line, index, 1)])
    return found


def shorts(parts):
    """Return the shorts that point 200 allows, found pair by pair."""
    found = []
    for one in lines_of(parts):
        for other in lines_of(parts):
            if one < other and not leads(parts, one, other) and not leads(parts, other, one):
                found.extend([("short", one, other, "and"), ("short", one, other, "or")])
    return sorted(found)


def versions(parts):
    return [None] + stems(parts) + pins(parts) + shorts(parts)


class Numbers:
    """A fixed row of numbers that looks mixed."""

    def __init__(self, start):
        self.state = start

    def below(self, end):
        self.state = (self.state * 1103515245 + 12345) % 2 ** 31
        return (self.state >> 8) % end


def mixed(start, sources, count):
    """Return the parts of a circuit of gates of mixed kinds in a mixed order."""
    numbers = Numbers(start)
    held = numbers.below(sources) if sources else 0
    inputs = tuple(f"i{k}" for k in range(sources - held))
    known = list(inputs) + [f"r{k}" for k in range(held)]
    kinds = ["and", "or", "nand", "nor", "xor", "xnor", "not", "buf", "low", "high"]
    gates = []
    for k in range(count):
        kind = kinds[numbers.below(10)] if known else kinds[8 + numbers.below(2)]
        many = 0 if kind in ("low", "high") else 1 if kind in ("not", "buf") else 1 + numbers.below(4)
        gates.append((f"g{k}", kind, tuple(known[numbers.below(len(known))] for _ in range(many))))
        known.append(f"g{k}")
    for k in range(count - 1, 0, -1):
        other = numbers.below(k + 1)
        gates[k], gates[other] = gates[other], gates[k]
    registers = tuple((f"r{k}", known[numbers.below(len(known))]) for k in range(held))
    outputs = tuple(known[numbers.below(len(known))] for _ in range(1 + numbers.below(3)))
    return (inputs, registers, tuple(gates), outputs)
