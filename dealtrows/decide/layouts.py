"""Layouts: nodes of places, as tuples in the order of the ascending places."""

from dealtrows.deal.placements import FIRST


def _in_order(places, nodes):
    """The layout of ascending places with these nodes, that of ("first",) being told before the others."""
    # The place ("first",) is the last one of ascending places, and its node the first one.
    return nodes[1:] + nodes[:1] if FIRST in places else nodes


def all_layouts(places):
    """The list of the layouts of ascending places."""
    found = [()]
    for _ in places:
        found = [(*nodes, node) for nodes in found for node in range(len(set(nodes)) + 1)]
    return [_in_order(places, nodes) for nodes in found]


def apart(places):
    """The layout that gives a node of its own to each place."""
    return _in_order(places, tuple(range(len(places))))


def counts_by_nodes(many):
    """For each number of nodes from 0 to that of the places: how many layouts of so many places have it."""
    found = [1]
    for _ in range(many):
        more = [at * number for at, number in enumerate(found)]
        found = [low + high for low, high in zip([0, *found], [*more, 0])]
    return found


def many_nodes(layout):
    """How many different nodes a layout has, at least 1."""
    return max([0, *layout]) + 1
