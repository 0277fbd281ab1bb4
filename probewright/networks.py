"""The nodes from which the pair sets of lines come (point 302), for the search.

A node is a pair of what it does and the numbers of the nodes that it looks
at. Its pair set comes from theirs alone, and it stands behind them.
"""

from probewright.pairs import gate_mark, replaced, short_bits


def node_mark(does, marks):
    """Return the pair set of a node for those of the nodes that it looks at."""
    if does[0] == "stuck":
        return replaced(marks[0], does[1], [does[2]])
    if does[0] == "short":
        return replaced(marks[0], does[1], short_bits(does[2], marks[1], marks[2]))
    return gate_mark(does[0], marks)


class Network:
    """The nodes of some versions of a circuit; equal nodes are kept once."""

    def __init__(self, circuit):
        self.circuit = circuit
        self.nodes = []
        self.numbers = {}

    def _node(self, does, looked_at):
        key = (does, looked_at)
        if key not in self.numbers:
            self.numbers[key] = len(self.nodes)
            self.nodes.append(key)
        return self.numbers[key]

    def _pins(self, gate, found, versions):
        """Return the list of the nodes that a gate sees at its pins."""
        at_pins = [found[pin] for pin in gate[2]]
        for side in (0, 1):
            version = versions[side]
            if version is not None and version[:2] == ("pin", gate[0]):
                at_pins[version[2]] = self._node(("stuck", side, version[3]), (at_pins[version[2]],))
        return at_pins

    def _line(self, line, node, versions, right):
        """Return the node of a line that would have `node` if it were not changed."""
        for side in (0, 1):
            version = versions[side]
            if version is not None and version[:2] == ("stem", line):
                node = self._node(("stuck", side, version[2]), (node,))
            if version is not None and version[0] == "short" and line in version[1:3]:
                node = self._node(("short", side, version[3]), (node, right[version[1]], right[version[2]]))
        return node

    def lines(self, one, other):
        """Return a dict from all lines to their nodes for two versions."""
        # A short rests on what its lines are in the right circuit.
        shorts = [version for version in (one, other) if version is not None and version[0] == "short"]
        right = self.lines(None, None) if shorts else {}
        found = {}
        for index, line in enumerate(self.circuit.sources()):
            found[line] = self._line(line, self._node(("source", index), ()), (one, other), right)
        for gate in self.circuit.order:
            at_pins = self._pins(gate, found, (one, other))
            node = self._node((gate[1],), tuple(at_pins))
            found[gate[0]] = self._line(gate[0], node, (one, other), right)
        return found
