"""Papers, their checker, and what is done with partial patterns (point 304)."""

from probewright.breaks import check_version
from probewright.errors import BadPaper
from probewright.pairs import UNEQUAL, check_partial, plain_marks
from probewright.words import is_integer


def empty_partial(circuit):
    """Return the partial pattern that leaves everything open."""
    return (None,) * len(circuit.sources())


def with_bit(partial, index, bit):
    """Return the partial pattern with the bit at the index."""
    return partial[:index] + (bit,) + partial[index + 1:]


def filled(circuit, partial, bit):
    """Return the pattern that has the bit wherever the partial pattern is open."""
    check_partial(circuit, partial)
    return tuple([bit if item is None else item for item in partial])


def agree(one, other):
    """Tell whether two partial patterns give no source different values."""
    for left, right in zip(one, other):
        if left is not None and right is not None and left != right:
            return False
    return True


def together(one, other):
    """Return the partial pattern with all values of two that agree."""
    return tuple([right if left is None else left for left, right in zip(one, other)])


def _has_form(paper, word, count):
    """Tell whether a value is a tuple of so many items that begins with a word."""
    if not isinstance(paper, tuple) or len(paper) != count:
        return False
    return isinstance(paper[0], str) and paper[0] == word


def _is_right_leaf(circuit, one, other, partial):
    marks = plain_marks(circuit, one, other, partial)
    return all([(marks[line] & UNEQUAL) == 0 for line in circuit.sinks()])


def _is_open(partial, index):
    return is_integer(index, 0, len(partial) - 1) and partial[index] is None


def check_leaves(paper, start, is_right):
    """Raise BadPaper unless all leaves of a paper for a partial pattern are right.

    `is_right` tells whether a leaf is right for the partial pattern at it.
    """
    # Each case fills a source, so that this ends for a paper of any depth.
    waiting = [(paper, start)]
    while waiting:
        part, partial = waiting.pop()
        if _has_form(part, "leaf", 1):
            if not is_right(partial):
                raise BadPaper("a leaf is not right")
        elif _has_form(part, "case", 4) and _is_open(partial, part[1]):
            waiting.append((part[3], with_bit(partial, part[1], 1)))
            waiting.append((part[2], with_bit(partial, part[1], 0)))
        else:
            raise BadPaper("neither a leaf nor a case of an open source")


def check_paper(circuit, one, other, paper):
    """Raise BadPaper unless the paper is right for the two versions."""
    check_version(circuit, one)
    check_version(circuit, other)
    check_leaves(paper, empty_partial(circuit), lambda partial: _is_right_leaf(circuit, one, other, partial))


def size_of(paper):
    """Return the number of leaves of a paper."""
    leaves = 0
    waiting = [paper]
    while waiting:
        part = waiting.pop()
        if part[0] == "leaf":
            leaves += 1
        else:
            waiting.extend(part[2:])
    return leaves
