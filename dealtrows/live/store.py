"""Stores: rows on nodes by a placement, which can be changed."""

from dealtrows.base.databases import Database
from dealtrows.base.names import is_integer, is_name, is_row
from dealtrows.deal.cases import MAX_NODES
from dealtrows.deal.placements import check_placement
from dealtrows.errors import InvalidNumber, InvalidOperation, InvalidRow, InvalidRule, MissingRow, NoNodes, UnknownName
from dealtrows.live.dealings import ANY, Dealing
from dealtrows.live.history import Group, History, Trial


def _check_nodes(nodes):
    """Refuse what is no number of nodes."""
    if is_integer(nodes) and nodes < 1:
        raise NoNodes(nodes)
    if not is_integer(nodes) or nodes > MAX_NODES:
        raise InvalidNumber(nodes)


def _are_weights(value):
    """Whether the value is a dict from names to tuples of one to four weights."""
    return isinstance(value, dict) and all([is_name(name) and is_row(value[name]) for name in value])


def _have_weights(placement, weights):
    """Whether each spread of a placement has as many weights as its arity."""
    spreads = placement.spreads
    return all([len(weights.get(spread, ())) == spreads[spread] for spread in spreads])


def _check_pair(value):
    if not isinstance(value, tuple) or len(value) != 2:
        raise InvalidOperation("this is no pair of a table and a row")


def _check_many(many):
    if not is_integer(many) or many < 0:
        raise InvalidNumber(many)


def _moves_between(old, new):
    """The ascending tuple of (table, row, before, after) for the rows with other nodes, by the nodes of all rows."""
    changed = [pair for pair in new if old.get(pair, ()) != new[pair]]
    gone = [pair for pair in old if pair not in new]
    return tuple([(pair[0], pair[1], old.get(pair, ()), new.get(pair, ())) for pair in sorted(changed + gone)])


class State:
    """The rows on nodes and the pledged queries of a store at one time. It never changes."""

    def __init__(self, dealt, pledged):
        self.dealt = dealt
        self.pledged = pledged


class Store:
    """Rows on nodes by a placement, and weights for its spreads."""

    def __init__(self, placement, *, nodes=1, spreads=None):
        check_placement(placement)
        _check_nodes(nodes)
        weights = {} if spreads is None else spreads
        if not _are_weights(weights) or not _have_weights(placement, weights):
            raise InvalidOperation("the spreads are no dict with as many weights as each spread needs")
        self._weights = {name: weights[name] for name in sorted(weights)}
        self._past = History(State(Dealing(placement, Database.empty(placement.schema), nodes, self._weights, {}), {}))

    @property
    def placement(self):
        """The placement."""
        return self._past.now.dealt.ruled

    @property
    def nodes(self):
        """The number of nodes."""
        return self._past.now.dealt.node_count

    @nodes.setter
    def nodes(self, value):
        self.resize(value)

    @property
    def spreads(self):
        """A dict from the names of spreads to their weights."""
        return dict(self._weights)

    @property
    def database(self):
        """The database of the rows."""
        return self._past.now.dealt.held

    @property
    def moves(self):
        """The ascending tuple of (table, row, before, after) for the rows that were moved last."""
        return _moves_between(self._past.before.dealt.nodes_by_pair, self._past.now.dealt.nodes_by_pair)

    def case(self):
        """The case that the store makes now."""
        return self._past.now.dealt.made_case()

    def _go_to(self, dealt):
        """Change to other rows on nodes."""
        self._past.change(State(dealt, self._past.now.pledged))

    def add(self, table, row, *, node=None):
        """Add a row, by the rule ("any",) on a node that is told or on the first with the fewest rows."""
        now = self._past.now.dealt
        if not now.ruled.schema.is_row_of(table, row):
            raise InvalidRow("this is no row of the table")
        if node is not None and not (is_integer(node) and 0 <= node < now.node_count):
            raise InvalidNumber(node)
        if node is not None and ANY not in now.ruled[table] or (table, row) in now.nodes_by_pair:
            raise InvalidOperation("no node can be told for the table, or the row is there")
        self._go_to(now.with_one(table, row, node))
        # No other row moves.
        return ((table, row, (), self._past.now.dealt.nodes_by_pair[table, row]),)

    def remove(self, table, row):
        """Remove a row."""
        now = self._past.now.dealt
        if table not in now.ruled.schema:
            raise UnknownName(table)
        if (table, row) not in now.held:
            raise MissingRow(row)
        self._go_to(now.without_one(table, row))
        return ((table, row, now.nodes_by_pair[table, row], ()),)

    def __iadd__(self, other):
        _check_pair(other)
        self.add(other[0], other[1])
        return self

    def __isub__(self, other):
        _check_pair(other)
        self.remove(other[0], other[1])
        return self

    def placement_with(self, table, rules):
        """The placement with other rules for a table, for which there are weights."""
        placement = self.placement.with_rules(table, *rules)
        if not _have_weights(placement, self._weights):
            raise InvalidOperation("a spread lacks weights, or has another arity")
        return placement

    def put(self, table, *rules):
        """Give a table other rules."""
        now = self._past.now.dealt
        self._go_to(now.with_all(self.placement_with(table, rules), now.node_count))
        return self.moves

    def __getitem__(self, at):
        return self._past.now.dealt.ruled[at]

    def __setitem__(self, at, worth):
        if at not in self._past.now.dealt.ruled.schema:
            raise UnknownName(at)
        if not isinstance(worth, tuple):
            raise InvalidRule("these are no tuple of rules")
        self.put(at, *worth)

    def __iter__(self):
        raise TypeError("a store is not iterated over")

    def resize(self, nodes):
        """Change the number of nodes."""
        _check_nodes(nodes)
        now = self._past.now.dealt
        self._go_to(now.with_all(now.ruled, nodes))
        return self.moves

    def ask(self, query):
        """The combined answer."""
        now = self._past.now.dealt.made_case()
        return now(query)

    def __call__(self, query):
        return self.ask(query)

    def undo(self, *, many=1):
        """Take back so many changes, and tell how many can be taken back now."""
        _check_many(many)
        return self._past.step_back(many)

    def redo(self, *, many=1):
        """Do so many changes again, and tell how many can be taken back now."""
        _check_many(many)
        return self._past.step_on(many)

    def group(self):
        """A block whose changes count as one."""
        return Group(self._past, self)

    def grouped(self, call):
        """The result of a call with the store, whose changes count as one."""
        with self.group():
            return call(self)

    def trial(self):
        """A block behind which all is as before."""
        return Trial(self._past, self)

    def during(self, call):
        """The result of a call with the store, behind which all is as before."""
        with self.trial():
            return call(self)

    def twin(self):
        """An independent copy, with its changes."""
        made = Store(self.placement, spreads=self._weights)
        made._past = self._past.outside()
        return made

    def __contains__(self, x):
        return x in self._past.now.dealt.held

    def __len__(self):
        return len(self._past.now.dealt.held.pairs())

    def __eq__(self, other):
        return (isinstance(other, Store) and self._past.now.dealt == other._past.now.dealt
                and self._past.now.pledged == other._past.now.pledged)
