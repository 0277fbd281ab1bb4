"""Classes of versions that no pattern parts (points 400 to 407)."""

from probewright.breaks import check_version, is_break, stuck_breaks
from probewright.errors import BadBreak, BadPaper, BadPattern
from probewright.generator import answer
from probewright.meaning import gate_value, parted
from probewright.papers import check_paper, filled

# What the value of one pin makes of the line of a gate, whatever the others are.
_STRONG = {"and": (0, 0), "nand": (0, 1), "or": (1, 1), "nor": (1, 0)}


def uses(circuit):
    """Return a dict from each line to the list of its uses (point 401)."""
    found = {line: [] for line in circuit.lines()}
    for line, _, pins in circuit.gates:
        for index, pin in enumerate(pins):
            found[pin].append((line, index))
    for line in circuit.sinks():
        found[line].append(None)
    return found


def _joined_at_gate(gate):
    """Return the joined pairs of a gate: rules 1, 2 and 5 of point 402."""
    line, kind, pins = gate
    if len(pins) == 0:
        return [(("stem", line, gate_value(kind, [])), None)]
    found = []
    if kind in _STRONG:
        bit, then = _STRONG[kind]
        found.extend([(("pin", line, index, bit), ("stem", line, then)) for index in range(len(pins))])
    if len(pins) == 1:
        found.extend([(("pin", line, 0, bit), ("stem", line, gate_value(kind, [bit]))) for bit in (0, 1)])
    return found


def _joined_at_line(line, used):
    """Return the joined pairs of a line with these uses: rules 3 and 4 of point 402."""
    if used == []:
        return [(("stem", line, bit), None) for bit in (0, 1)]
    if len(used) == 1 and used[0] is not None:
        gate, index = used[0]
        return [(("stem", line, bit), ("pin", gate, index, bit)) for bit in (0, 1)]
    return []


def _joined(circuit):
    """Return the list of all joined pairs of versions."""
    found = []
    for gate in circuit.gates:
        found.extend(_joined_at_gate(gate))
    for line, used in uses(circuit).items():
        found.extend(_joined_at_line(line, used))
    return found


def joined_classes(circuit):
    """Return the classes of None and of all stuck breaks that joined pairs make."""
    versions = [None, *stuck_breaks(circuit)]
    beside = {version: [] for version in versions}
    for one, other in _joined(circuit):
        beside[one].append(other)
        beside[other].append(one)
    first_of = {}
    for first in versions:
        if first not in first_of:
            first_of[first] = first
            waiting = [first]
            while waiting:
                version = waiting.pop()
                for other in beside[version]:
                    if other not in first_of:
                        first_of[other] = first
                        waiting.append(other)
    classes = {}
    for version in versions:
        classes.setdefault(first_of[version], []).append(version)
    return list(classes.values())


def representatives(circuit):
    """Return the first members of all joined classes but that of None."""
    return [members[0] for members in joined_classes(circuit)[1:]]


def _check_versions(circuit, versions):
    seen = set()
    for version in versions:
        check_version(circuit, version)
        if version in seen:
            raise BadBreak("a version is in the list twice")
        seen.add(version)


def _compared(circuit, firsts, version):
    """Compare a version with first members up to one that it is alike to.

    Return the place of that one and the paper, or None twice, and the entries
    for those that it is unlike to.
    """
    apart = []
    for place, first in enumerate(firsts):
        word, shown = answer(circuit, first, version)
        if word == "alike":
            return (place, shown, apart)
        apart.append((first, version, shown))
    return (None, None, apart)


def exact_classes(circuit, versions):
    """Return the classes of versions that no pattern parts, with papers and patterns."""
    _check_versions(circuit, versions)
    classes = []
    papers = []
    patterns = []
    for version in versions:
        place, paper, apart = _compared(circuit, [members[0] for members in classes], version)
        if place is None:
            classes.append([version])
            patterns.extend(apart)
        else:
            classes[place].append(version)
            papers.append((classes[place][0], version, paper))
    return (tuple([tuple(members) for members in classes]), tuple(papers), tuple(patterns))


def _check_tuple(value):
    if not isinstance(value, tuple):
        raise BadPaper("not a tuple")


def _check_entry(circuit, entry):
    """Check that an entry is a tuple of two versions and something else."""
    _check_tuple(entry)
    if len(entry) != 3:
        raise BadPaper("not an entry for two versions")
    for version in entry[:2]:
        _check_member(circuit, version)


def _check_member(circuit, member):
    if member is not None and not is_break(circuit, member):
        raise BadPaper("not a version of the circuit")


def _first_of(circuit, versions, classes):
    """Check classes of versions, and return a dict from each member to its first one."""
    _check_tuple(classes)
    listed = set(versions)
    found = {}
    for members in classes:
        _check_tuple(members)
        if len(members) == 0:
            raise BadPaper("a class is empty")
        for member in members:
            _check_member(circuit, member)
            if member not in listed or member in found:
                raise BadPaper("a member is not in the list, or is in the classes twice")
            found[member] = members[0]
    if len(found) != len(versions):
        raise BadPaper("a version is in no class")
    return found


def _check_papers(circuit, first_of, papers):
    """Check that there is just one right paper for each member but the first ones."""
    _check_tuple(papers)
    shown = {first: True for first in first_of.values()}
    for entry in papers:
        _check_entry(circuit, entry)
        first, version, paper = entry
        if version not in first_of or first_of[version] != first or version in shown:
            raise BadPaper("an entry for versions that do not need it")
        check_paper(circuit, first, version, paper)
        shown[version] = True
    if len(shown) != len(first_of):
        raise BadPaper("a member without a paper")


def _check_patterns(circuit, firsts, patterns):
    """Check that there is just one pattern for each two classes."""
    _check_tuple(patterns)
    place_of = {first: place for place, first in enumerate(firsts)}
    shown = set()
    for entry in patterns:
        _check_entry(circuit, entry)
        first, other, partial = entry
        if first not in place_of or other not in place_of or (first, other) in shown:
            raise BadPaper("an entry for versions that do not need it")
        if place_of[first] >= place_of[other] or not _parts(circuit, first, other, partial):
            raise BadPaper("the pattern does not show that the first class is unlike the later one")
        shown.add((first, other))
    if 2 * len(shown) != len(firsts) * (len(firsts) - 1):
        raise BadPaper("two classes without a pattern")


def _parts(circuit, one, other, partial):
    """Tell whether a value is a partial pattern that parts two versions if filled with 0."""
    try:
        return parted(circuit, one, other, filled(circuit, partial, 0))
    except BadPattern:
        return False


def check_classes(circuit, versions, finding):
    """Raise BadPaper unless a finding shows the exact classes, whoever made it."""
    _check_versions(circuit, versions)
    _check_tuple(finding)
    if len(finding) != 3:
        raise BadPaper("not three parts")
    classes, papers, patterns = finding
    first_of = _first_of(circuit, versions, classes)
    _check_papers(circuit, first_of, papers)
    _check_patterns(circuit, [members[0] for members in classes], patterns)
