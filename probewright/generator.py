"""The generator: a pattern that parts two versions, or a paper that none does (point 305)."""

from probewright.breaks import check_version
from probewright.networks import Network
from probewright.pairs import UNEQUAL
from probewright.papers import empty_partial
from probewright.searches import Search


def answer(circuit, one, other):
    """Return `("parted", partial)` or `("alike", paper)` for two versions."""
    check_version(circuit, one)
    check_version(circuit, other)
    network = Network(circuit)
    nodes_of = network.lines(one, other)
    goals = [nodes_of[line] for line in circuit.sinks()]
    partial, paper = Search(network.nodes, goals, UNEQUAL, empty_partial(circuit)).outcome()
    if partial is None:
        return ("alike", paper)
    return ("parted", partial)
