"""Dealings: rows of a store and the nodes where they lie.

A dealing never changes. With a row more or less it is made from the one before:
no other row moves then.
"""

from dealtrows.deal.cases import Case, KnownPlaces
from dealtrows.deal.placements import ALL, FIRST

ANY = ("any",)


def _counts_with(counts, nodes, more):
    """The numbers of rows on nodes, with so many more on some of them."""
    return tuple([number + more if node in nodes else number for node, number in enumerate(counts)])


class Dealing:
    """A placement, a database, a number of nodes, weights for spreads, and nodes for lone rows."""

    def __init__(self, ruled, held, node_count, weights, lone_nodes):
        self.ruled = ruled
        self.held = held
        self.node_count = node_count
        self.lone_nodes = lone_nodes
        self.nodes_by_pair = {}
        self._weights = weights
        self._counts = (0,) * node_count
        # The case is made when it is first asked for.
        self._made = None

    def _node_with(self, place):
        """The node of a place other than ("all",)."""
        if place == FIRST:
            return 0
        if place[0] == "any":
            return self.lone_nodes[place[1:]]
        numbers = [weight * number for weight, number in zip(self._weights[place[1]], place[2])]
        return sum(numbers) % self.node_count

    def _nodes_with(self, table, row):
        """The ascending tuple of the nodes of a row."""
        places = self.ruled.places_known(self.held, table, row)
        if ALL in places:
            return tuple(range(self.node_count))
        if len(places) == 1:
            return (self._node_with(places[0]),)
        return tuple(sorted(set([self._node_with(place) for place in places])))

    def _emptiest(self):
        """The first of the nodes with the fewest rows."""
        return self._counts.index(min(self._counts))

    def with_all(self, placement, node_count):
        """The dealing of the same rows by another placement, or to another number of nodes."""
        tables = [table for table in placement.rules if ANY in placement[table]]
        lone = {pair: self.lone_nodes.get(pair, 0) % node_count for pair in self.held.pairs() if pair[0] in tables}
        made = Dealing(placement, self.held, node_count, self._weights, lone)
        made.nodes_by_pair = {pair: made._nodes_with(pair[0], pair[1]) for pair in self.held.pairs()}
        found = [node for nodes in made.nodes_by_pair.values() for node in nodes]
        made._counts = tuple([found.count(node) for node in range(node_count)])
        return made

    def with_one(self, table, row, node):
        """The dealing with one row more, on this node, or on the emptiest for None, if its table has the rule any."""
        lone = self.lone_nodes
        if ANY in self.ruled[table]:
            lone = {**lone, (table, row): self._emptiest() if node is None else node}
        made = Dealing(self.ruled, self.held.with_row(table, row), self.node_count, self._weights, lone)
        nodes = made._nodes_with(table, row)
        made.nodes_by_pair = {**self.nodes_by_pair, (table, row): nodes}
        made._counts = _counts_with(self._counts, nodes, 1)
        return made

    def without_one(self, table, row):
        """The dealing with one row less."""
        held = self.held.without_single(table, row)
        lone = {pair: self.lone_nodes[pair] for pair in self.lone_nodes if pair != (table, row)}
        made = Dealing(self.ruled, held, self.node_count, self._weights, lone)
        nodes = self.nodes_by_pair
        made.nodes_by_pair = {pair: nodes[pair] for pair in nodes if pair != (table, row)}
        made._counts = _counts_with(self._counts, nodes[table, row], -1)
        return made

    def made_case(self):
        """The case."""
        if self._made is None:
            places = [place for place in self.ruled.places_in(self.held) if place != ALL]
            told = KnownPlaces({place: self._node_with(place) for place in places}, self.nodes_by_pair)
            self._made = Case(self.ruled, self.held, nodes=self.node_count, spreads=told)
        return self._made

    def __eq__(self, other):
        # With equal weights just the nodes of lone rows can differ between the cases.
        return (isinstance(other, Dealing) and self.ruled == other.ruled and self.held == other.held
                and self.node_count == other.node_count and self.lone_nodes == other.lone_nodes
                and self._weights == other._weights)
