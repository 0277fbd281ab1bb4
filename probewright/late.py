"""Lines that change too late (points 900 to 902)."""

from probewright.breaks import is_break
from probewright.errors import BadBreak, BadPaper
from probewright.generator import answer
from probewright.meaning import response, values
from probewright.networks import Network
from probewright.pairs import check_partial, marks_of
from probewright.papers import check_leaves, check_paper, empty_partial, filled
from probewright.searches import Search

# The pair sets of a line that has a value for sure in both of two right circuits.
_SURE = (1, 8)


def is_late(circuit, value):
    """Tell whether a value is a late line of the circuit."""
    if not isinstance(value, tuple) or len(value) != 3:
        return False
    # A line is late at a value just if it can be stuck at it.
    return isinstance(value[0], str) and value[0] == "late" and is_break(circuit, ("stem", *value[1:]))


def _check_late(circuit, late):
    if not is_late(circuit, late):
        raise BadBreak("not a late line of the circuit")


def _stuck(late):
    """Return the break of the line of a late line with the other value."""
    return ("stem", late[1], 1 - late[2])


def late_response(circuit, late, first, second):
    """Return the response to the second of two patterns with a late line."""
    _check_late(circuit, late)
    _, line, value = late
    before = values(circuit, None, first)[line]
    behind = values(circuit, None, second)[line]
    is_held = before != value and behind == value
    return response(circuit, _stuck(late) if is_held else None, second)


def shows_late(circuit, late, first, second):
    """Tell whether a pair of patterns shows a late line."""
    return late_response(circuit, late, first, second) != response(circuit, None, second)


def reach(circuit, line, bit, partial):
    """Return a partial pattern that fills one and gives a line a bit, or a paper that none does."""
    check_partial(circuit, partial)
    network = Network(circuit)
    goal = network.lines(None, None)[line]
    reached, paper = Search(network.nodes, [goal], _SURE[bit], partial).outcome()
    if reached is None:
        return ("never", paper)
    return ("reached", reached)


def check_never(circuit, line, bit, partial, paper):
    """Raise BadPaper unless a paper shows that a line never has a bit."""
    check_partial(circuit, partial)
    contrary = _SURE[1 - bit]
    check_leaves(paper, partial, lambda part: marks_of(circuit, None, None, part)[line] == contrary)


def late_answer(circuit, late):
    """Return a pair of patterns that shows a late line, or a paper that none does."""
    _check_late(circuit, late)
    _, line, value = late
    word, found = reach(circuit, line, 1 - value, empty_partial(circuit))
    if word == "never":
        return ("never", found)
    part, shown = answer(circuit, None, _stuck(late))
    if part == "alike":
        return ("alike", shown)
    return ("pair", filled(circuit, found, 0), filled(circuit, shown, 0))


def check_late_paper(circuit, late, found):
    """Raise BadPaper unless a value is an answer with a right paper that no pair shows a late line."""
    _check_late(circuit, late)
    if not isinstance(found, tuple) or len(found) != 2 or not isinstance(found[0], str):
        raise BadPaper("not an answer with a paper")
    if found[0] == "never":
        check_never(circuit, late[1], 1 - late[2], empty_partial(circuit), found[1])
    elif found[0] == "alike":
        check_paper(circuit, None, _stuck(late), found[1])
    else:
        raise BadPaper("not an answer with a paper")
