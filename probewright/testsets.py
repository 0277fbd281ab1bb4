"""What lists of patterns show, finished sets, and smaller ones (points 500 to 508)."""

from itertools import combinations

from probewright.breaks import is_break
from probewright.errors import BadBreak, BadPaper, BadPattern
from probewright.generator import answer
from probewright.many import Trial, indexes_of
from probewright.meaning import check_pattern
from probewright.papers import agree, check_paper, filled, together

MOST_CHOICES = 16


def check_breaks(circuit, breaks, patterns):
    """Raise BadBreak unless all breaks are some, and then BadPattern unless all patterns are."""
    for broken in breaks:
        # The right circuit is a version, but no break.
        if not is_break(circuit, broken):
            raise BadBreak("not a break of the circuit")
    for pattern in patterns:
        check_pattern(circuit, pattern)


def _showing(circuit, breaks, patterns):
    """Return the list of the words of the patterns that show each break."""
    check_breaks(circuit, breaks, patterns)
    trial = Trial(circuit, patterns)
    return [trial.showing(broken) for broken in breaks]


def table(circuit, breaks, patterns):
    """Return a row for each break: the indexes of the patterns that show it."""
    return [tuple(indexes_of(word)) for word in _showing(circuit, breaks, patterns)]


def drop(circuit, breaks, patterns):
    """Return what each pattern shows for the first time, and what no pattern shows."""
    rows = [[] for _ in patterns]
    left = []
    for broken, indexes in zip(breaks, table(circuit, breaks, patterns)):
        if indexes == ():
            left.append(broken)
        else:
            rows[indexes[0]].append(broken)
    return (rows, left)


def build(circuit, breaks):
    """Return the partial patterns, the patterns and the papers of a finished set."""
    check_breaks(circuit, breaks, [])
    trial = Trial(circuit, [])
    partials = []
    patterns = []
    papers = []
    for broken in breaks:
        if trial.showing(broken) == 0:
            word, found = answer(circuit, None, broken)
            if word == "alike":
                papers.append((broken, found))
            else:
                partials.append(found)
                patterns.append(filled(circuit, found, 0))
                trial.take(patterns[-1])
    return (partials, patterns, papers)


def complete(circuit, breaks, patterns):
    """Return patterns with those that they lack for a finished set, and the papers of it."""
    left = drop(circuit, breaks, patterns)[1]
    _, more, papers = build(circuit, left)
    return ([*patterns, *more], papers)


def _is_proved(circuit, entry):
    """Tell whether a value is a break with a right paper that no pattern shows it."""
    if not isinstance(entry, tuple) or len(entry) != 2 or not is_break(circuit, entry[0]):
        return False
    try:
        check_paper(circuit, None, entry[0], entry[1])
    except BadPaper:
        return False
    return True


def is_finished(circuit, breaks, patterns, papers):
    """Tell whether each break is shown by a pattern or has a right paper, and all papers are right."""
    left = drop(circuit, breaks, patterns)[1]
    if not all([_is_proved(circuit, entry) for entry in papers]):
        return False
    proved = {entry[0]: True for entry in papers}
    return all([broken in proved for broken in left])


def merge(partials):
    """Put each partial pattern together with the first one of the result that it agrees with."""
    found = []
    for partial in partials:
        places = [place for place, other in enumerate(found) if agree(other, partial)]
        if places == []:
            found.append(partial)
        else:
            found[places[0]] = together(found[places[0]], partial)
    return found


def thin(circuit, breaks, patterns):
    """Leave out patterns, from the last one on, as long as all that is shown stays shown."""
    words = _showing(circuit, breaks, patterns)
    many = [len(indexes_of(word)) for word in words]
    found = []
    for k, pattern in reversed(list(enumerate(patterns))):
        shown = [place for place, word in enumerate(words) if word >> k & 1]
        if all([many[place] > 1 for place in shown]):
            for place in shown:
                many[place] -= 1
        else:
            found.append(pattern)
    return list(reversed(found))


def smallest(rows, count):
    """Return the fewest indexes, and the least such ones, that each row has one of."""
    if count > MOST_CHOICES:
        raise BadPattern("too many patterns to choose from")
    # Short rows are missed more often, so that they are asked first.
    words = sorted({(len(row), sum([1 << index for index in row])) for row in rows if len(row) > 0})
    for size in range(count + 1):
        for chosen in combinations(range(count), size):
            word = sum([1 << index for index in chosen])
            if all([word & row for _, row in words]):
                return chosen
    raise BadPattern("a row has an index that no pattern has")
