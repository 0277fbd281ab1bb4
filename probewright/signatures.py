"""Presses, their signatures, and what these hide (points 700 to 709)."""

from probewright.errors import BadSignature
from probewright.limits import MOST_WIDTH
from probewright.many import Trial
from probewright.testsets import check_breaks
from probewright.words import are_bits, is_integer

MOST_PERIOD = 16

_MOST_WORDS = 1000


def _are_taps(taps, width):
    """Tell whether a value is a tuple of ascending places that ends with the last one."""
    if not isinstance(taps, tuple) or not all([is_integer(tap, 0, width - 1) for tap in taps]):
        return False
    ascending = all([one < other for one, other in zip(taps, taps[1:])])
    return ascending and taps[-1:] == (width - 1,)


def _sum_of(one, other):
    """Return the sum of two tuples of as many bits."""
    return tuple([left ^ right for left, right in zip(one, other)])


class Press:
    """A register of bits that presses words of its width into a signature."""

    def __init__(self, width, taps):
        if not is_integer(width, 1, MOST_WIDTH) or not _are_taps(taps, width):
            raise BadSignature("not the width and the taps of a press")
        self.width = width
        self.taps = taps

    def _moved(self, state):
        """Return the state behind a state and the word of zeros."""
        return (sum([state[tap] for tap in self.taps]) & 1, *state[:-1])

    def step(self, state, word):
        """Return the state behind a state and a word."""
        if not are_bits(state, self.width) or not are_bits(word, self.width):
            raise BadSignature("not a state and a word of the press")
        return _sum_of(self._moved(state), word)

    def fold(self, response):
        """Return the word of a tuple of bits of any length."""
        if not isinstance(response, tuple) or not are_bits(response, len(response)):
            raise BadSignature("not a tuple of bits")
        word = [0] * self.width
        for place, bit in enumerate(response):
            word[place % self.width] ^= bit
        return tuple(word)

    def press(self, words):
        """Return the signature of a list of words."""
        state = (0,) * self.width
        for word in words:
            state = self.step(state, word)
        return state

    def signature(self, table):
        """Return the signature of the words of a list of responses."""
        return self.press([self.fold(response) for response in table])

    def _units(self):
        """Return the list of the states with a single 1, in the order of its place."""
        return [tuple([1 if place == other else 0 for other in range(self.width)]) for place in range(self.width)]

    def blind(self, count):
        """Return blind lists of `count` words, of which every blind list is just one sum."""
        if not is_integer(count, 0, _MOST_WORDS):
            raise BadSignature("no such number of words")
        zeros = (0,) * self.width
        units = self._units()
        last = units
        found = []
        for place in reversed(range(count - 1)):
            # What is left of the bit just ahead of the last word is what the
            # last word must take away.
            last = [self._moved(state) for state in last]
            rows = []
            for unit, word in zip(units, last):
                rows.append([zeros] * place + [unit] + [zeros] * (count - 2 - place) + [word])
            found.append(rows)
        return [row for rows in reversed(found) for row in rows]

    def period(self):
        """Return the number of words of zeros behind which the first unit comes again."""
        if self.width > MOST_PERIOD:
            raise BadSignature("too wide for counting the period")
        first = self._units()[0]
        state = self._moved(first)
        steps = 1
        while state != first:
            state = self._moved(state)
            steps += 1
        return steps


def added(one, other):
    """Return the sum of two lists of as many words."""
    return [_sum_of(left, right) for left, right in zip(one, other)]


def hidden(press, one, other):
    """Tell whether two lists of as many responses differ and have the same signature."""
    # Signatures come first: they refuse what is no list of responses.
    same = press.signature(one) == press.signature(other)
    return same and len(one) == len(other) and list(one) != list(other)


def lost(circuit, breaks, patterns, press):
    """Return the breaks that the patterns show and the signature of the responses does not."""
    check_breaks(circuit, breaks, patterns)
    trial = Trial(circuit, patterns)
    signature = press.signature(trial.responses(None))
    shown = [broken for broken in breaks if trial.showing(broken) != 0]
    return [broken for broken in shown if press.signature(trial.responses(broken)) == signature]
