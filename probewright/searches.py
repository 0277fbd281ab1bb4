"""The search for a partial pattern, which ends with a paper if there is none.

The search goes through cases of sources. Each part of its paper comes with
the sources that it rests on, as a word with a bit for each of them: a part
that does not rest on the source of a case holds without this case, too.
"""

from probewright.networks import node_mark
from probewright.pairs import UNEQUAL, source_mark
from probewright.papers import with_bit

_ANY = 15
_SINGLE = (1, 2, 4, 8)


def _with_above(nodes, goals):
    """Return the ascending list of the goals and of all nodes that they rest on."""
    found = {goal: True for goal in goals}
    for node in reversed(range(len(nodes))):
        if node in found:
            for other in nodes[node][1]:
                found[other] = True
    return sorted(found)


class Search:
    """A search for a partial pattern that gives a goal a wanted pair for sure.

    The nodes are those of a network, the goals are numbers of nodes, and
    `wanted` is the pair set of the wanted pairs. The paper shows that no goal
    has a wanted pair for any pattern that fills the partial pattern `start`.
    """

    def __init__(self, nodes, goals, wanted, start):
        self.nodes = nodes
        self.wanted = wanted
        self.start = start
        self.known = {}
        self.first = [_ANY] * len(nodes)
        self.levels = [0] * len(nodes)
        self.support = [0] * len(nodes)
        self._look_at(_with_above(nodes, goals))
        # At the start a node has all pairs that it may ever have.
        self.goals = sorted({goal for goal in goals if self.first[goal] & wanted})
        self.needed = _with_above(nodes, self.goals)
        self.below = {}
        self.found = None

    def _mark(self, does, marks):
        """Return the pair set of a node for those of the nodes that it looks at."""
        key = (does, tuple(marks))
        if key not in self.known:
            self.known[key] = node_mark(does, marks)
        return self.known[key]

    def _look_at(self, numbers):
        """Find what nodes are at the start, how deep they lie, and on which sources they rest."""
        for node in numbers:
            does, looked_at = self.nodes[node]
            if does[0] == "source":
                self.first[node] = source_mark(self.start[does[1]])
                self.support[node] = 1 << does[1]
            else:
                self.first[node] = self._mark(does, [self.first[other] for other in looked_at])
            for other in looked_at:
                self.support[node] |= self.support[other]
                self.levels[node] = max(self.levels[node], self.levels[other] + 1)

    def _below(self, index):
        """Return the ascending list of the nodes that rest on a source."""
        if index not in self.below:
            self.below[index] = [node for node in self.needed if self.support[node] >> index & 1]
        return self.below[index]

    def _given(self, marks, index, bit):
        """Return the list of the pair sets behind a source being given a bit."""
        found = list(marks)
        for node in self._below(index):
            # Pairs only get lost on the way, so that a single one stays.
            if found[node] not in _SINGLE:
                does, looked_at = self.nodes[node]
                if does[0] == "source":
                    found[node] = source_mark(bit)
                else:
                    found[node] = self._mark(does, [found[other] for other in looked_at])
        return found

    def _loosened(self, node, marks, bound):
        """Return the most that the nodes may be that a node looks at, if it keeps to a bound."""
        does, looked_at = self.nodes[node]
        found = [marks[other] for other in looked_at]
        for place, other in enumerate(looked_at):
            for pair in _SINGLE:
                tried = list(found)
                tried[place] |= pair & self.first[other]
                if self._mark(does, tried) | bound == bound:
                    found = tried
        return found

    def _rests_on(self, marks, bounds):
        """Return the word of the sources that keep the nodes of a dict to their bounds."""
        found = 0
        kept = {node: bounds[node] for node in bounds}
        for node in reversed(self.needed):
            bound = kept.get(node, _ANY)
            if self.first[node] | bound == bound:
                continue
            if self.nodes[node][0][0] == "source":
                found |= self.support[node]
            for other, mark in zip(self.nodes[node][1], self._loosened(node, marks, bound)):
                kept[other] = kept.get(other, _ANY) & mark
        return found

    def _pairs_for(self, node, marks, place, pairs):
        """Return the pairs that a node should see at a place to have one of some pairs."""
        does, looked_at = self.nodes[node]
        tried = [marks[other] for other in looked_at]
        sure = 0
        possible = 0
        for pair in _SINGLE:
            if marks[looked_at[place]] & pair:
                tried[place] = pair
                mark = self._mark(does, tried)
                if mark | pairs == pairs:
                    sure |= pair
                if mark & pairs:
                    possible |= pair
        return sure if sure else possible

    def _step(self, node, marks, pairs):
        """Return an undecided node above one that should have some pairs, and its own pairs."""
        looked_at = self.nodes[node][1]
        ranks = []
        for place, other in enumerate(looked_at):
            if marks[other] not in _SINGLE:
                # What differs has to come from above ahead of what lets it pass.
                differs = pairs | UNEQUAL == UNEQUAL and marks[other] & UNEQUAL != 0
                ranks.append((0 if differs else 1, -self.levels[other], place))
        place = min(ranks)[2]
        return (looked_at[place], self._pairs_for(node, marks, place, pairs))

    def _choice(self, marks):
        """Return an open source, and the bit that it should have first."""
        goals = [(self.levels[goal], goal) for goal in self.goals if marks[goal] & self.wanted]
        node = min(goals)[1]
        pairs = marks[node] & self.wanted
        # A node that is undecided looks at one that is, down to a source.
        while self.nodes[node][0][0] != "source":
            node, pairs = self._step(node, marks, pairs)
        return (self.nodes[node][0][1], 1 if pairs == 8 else 0)

    def _kept(self, partial, needed):
        """Return a partial pattern without what is neither needed nor given at the start."""
        return tuple([
            item if needed >> index & 1 else self.start[index] for index, item in enumerate(partial)
        ])

    def _settled(self, partial, marks):
        """Return a paper and what it rests on, or None behind keeping what is found."""
        if not any([marks[goal] & self.wanted for goal in self.goals]):
            bounds = {goal: _ANY ^ self.wanted for goal in self.goals}
            return (("leaf",), self._rests_on(marks, bounds))
        for goal in self.goals:
            if marks[goal] | self.wanted == self.wanted:
                self.found = self._kept(partial, self._rests_on(marks, {goal: self.wanted}))
                return None
        return self._case(partial, marks)

    def _case(self, partial, marks):
        """Do what `_settled` does by the two cases of a source."""
        index, bit = self._choice(marks)
        parts = {}
        rests_on = 0
        for given in (bit, 1 - bit):
            settled = self._settled(with_bit(partial, index, given), self._given(marks, index, given))
            if settled is None or not settled[1] >> index & 1:
                return settled
            parts[given] = settled[0]
            rests_on |= settled[1]
        return (("case", index, parts[0], parts[1]), rests_on ^ 1 << index)

    def outcome(self):
        """Return the pair of a partial pattern and None, or of None and a paper."""
        settled = self._settled(self.start, self.first)
        return (self.found, None) if settled is None else (None, settled[0])
