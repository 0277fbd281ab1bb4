"""What the tests compare the program with: the rules of points 201 and 302,
asked line by line from the sinks upwards, with plain tuples and sets."""

import functools
import itertools

VALUE = {
    "and": lambda bits: min(bits),
    "or": lambda bits: max(bits),
    "nand": lambda bits: 1 - min(bits),
    "nor": lambda bits: 1 - max(bits),
    "xor": lambda bits: bits.count(1) % 2,
    "xnor": lambda bits: 1 - bits.count(1) % 2,
    "not": lambda bits: 1 - bits[0],
    "buf": lambda bits: bits[0],
    "low": lambda bits: 0,
    "high": lambda bits: 1,
}


def lines_of(parts):
    inputs, registers, gates, _ = parts
    return list(inputs) + [pair[0] for pair in registers] + [gate[0] for gate in gates]


def sources_of(parts):
    return list(parts[0]) + [pair[0] for pair in parts[1]]


def sinks_of(parts):
    return list(parts[3]) + [pair[1] for pair in parts[1]]


def leads(parts, one, other):
    """Tell whether one line leads to another one (point 107)."""
    for line, _, pins in parts[2]:
        if line == other:
            return any(pin == one or leads(parts, one, pin) for pin in pins)
    return False


class Meaning:
    """The values of one version for one pattern (point 201)."""

    def __init__(self, parts, version, pattern):
        self.sources = dict(zip(sources_of(parts), pattern))
        self.gates = {gate[0]: gate for gate in parts[2]}
        self.version = version or ("right",)
        self.known = {}

    def driven(self, line):
        if line in self.sources:
            return self.sources[line]
        _, kind, pins = self.gates[line]
        bits = []
        for index, pin in enumerate(pins):
            if self.version[:3] == ("pin", line, index):
                bits.append(self.version[3])
            else:
                bits.append(self.value(pin))
        return VALUE[kind](bits)

    def value(self, line):
        if line not in self.known:
            version = self.version
            if version[:2] == ("stem", line):
                self.known[line] = version[2]
            elif version[0] == "short" and line in version[1:3]:
                self.known[line] = VALUE[version[3]]([self.driven(version[1]), self.driven(version[2])])
            else:
                self.known[line] = self.driven(line)
        return self.known[line]


def values(parts, version, pattern):
    meaning = Meaning(parts, version, pattern)
    return {line: meaning.value(line) for line in lines_of(parts)}


def response(parts, version, pattern):
    meaning = Meaning(parts, version, pattern)
    return tuple(meaning.value(line) for line in sinks_of(parts))


def patterns_of(parts):
    return list(itertools.product((0, 1), repeat=len(sources_of(parts))))


def partials_of(parts):
    return list(itertools.product((0, 1, None), repeat=len(sources_of(parts))))


@functools.lru_cache(maxsize=None)
def responses(parts, version):
    """Return the responses of a version to all patterns."""
    return tuple(response(parts, version, pattern) for pattern in patterns_of(parts))


def alike(parts, one, other):
    """Tell whether no pattern parts two versions (point 400)."""
    return responses(parts, one) == responses(parts, other)


def parting(parts, one, other):
    """Return the list of all patterns that part two versions."""
    return [
        pattern for pattern, left, right in zip(patterns_of(parts), responses(parts, one), responses(parts, other))
        if left != right
    ]


def fills(pattern, partial):
    """Tell whether a pattern fills a partial pattern (point 300)."""
    return all(item is None or item == bit for item, bit in zip(partial, pattern))


def filling(partial):
    """Return all patterns that fill a partial pattern."""
    return list(itertools.product(*[(0, 1) if item is None else (item,) for item in partial]))


def mark(pairs):
    """Return the integer of a set of pairs (point 301)."""
    return sum({(0, 0): 1, (0, 1): 2, (1, 0): 4, (1, 1): 8}[pair] for pair in pairs)


class Pairs:
    """The sets of pairs for two versions and a partial pattern (point 302)."""

    def __init__(self, parts, one, other, partial):
        self.parts = parts
        self.partial = partial
        self.sources = dict(zip(sources_of(parts), partial))
        self.gates = {gate[0]: gate for gate in parts[2]}
        self.versions = (one or ("right",), other or ("right",))
        self.known = {}

    def changed(self, pairs, side, bits):
        if side == 0:
            return {(bit, pair[1]) for pair in pairs for bit in bits}
        return {(pair[0], bit) for pair in pairs for bit in bits}

    def seen(self, line, index, pin):
        pairs = self.pairs(pin)
        for side in (0, 1):
            if self.versions[side][:3] == ("pin", line, index):
                pairs = self.changed(pairs, side, (self.versions[side][3],))
        return pairs

    def driven(self, line):
        if line in self.sources:
            item = self.sources[line]
            return {(0, 0), (1, 1)} if item is None else {(item, item)}
        _, kind, pins = self.gates[line]
        at_pins = [self.seen(line, index, pin) for index, pin in enumerate(pins)]
        return {
            tuple(VALUE[kind]([pair[side] for pair in chosen]) for side in (0, 1))
            for chosen in itertools.product(*at_pins)
        }

    def shorted(self, version):
        right = Pairs(self.parts, None, None, self.partial)
        may_have = [{pair[0] for pair in right.pairs(line)} for line in version[1:3]]
        return {VALUE[version[3]](list(bits)) for bits in itertools.product(*may_have)}

    def pairs(self, line):
        if line not in self.known:
            pairs = self.driven(line)
            for side in (0, 1):
                version = self.versions[side]
                if version[:2] == ("stem", line):
                    pairs = self.changed(pairs, side, (version[2],))
                if version[0] == "short" and line in version[1:3]:
                    pairs = self.changed(pairs, side, self.shorted(version))
            self.known[line] = pairs
        return self.known[line]


def marks(parts, one, other, partial):
    found = Pairs(parts, one, other, partial)
    return {line: mark(found.pairs(line)) for line in lines_of(parts)}
