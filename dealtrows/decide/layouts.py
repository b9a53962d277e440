"""Layouts: nodes of places, as tuples in the order of the ascending places."""

from dealtrows.deal.placements import FIRST

# For each number of places, up to six, and each number of nodes, from 0 on, how many layouts there are.
LAYOUTS_BY_NODES = (
    (1,), (0, 1), (0, 1, 1), (0, 1, 3, 1), (0, 1, 7, 6, 1), (0, 1, 15, 25, 10, 1), (0, 1, 31, 90, 65, 15, 1))


def _in_order(places, nodes):
    """The layout of ascending places with these nodes, that of ("first",) being told before the others."""
    # The place ("first",) is the last one of ascending places, and its node the first one.
    return nodes[1:] + nodes[:1] if FIRST in places else nodes


def all_layouts(places):
    """The list of the layouts of ascending places."""
    found = [((), 0)]
    for _ in places:
        found = [((*nodes, node), max(used, node + 1)) for nodes, used in found for node in range(used + 1)]
    return [_in_order(places, nodes) for nodes, _ in found]


def apart(places):
    """The layout that gives a node of its own to each place."""
    return _in_order(places, tuple(range(len(places))))


def many_nodes(layout):
    """How many different nodes a layout has, at least 1."""
    return max([0, *layout]) + 1
