"""Stores: rows on nodes by a placement, which can be changed."""

from dealtrows.base.databases import Database, many_rows, rows_of
from dealtrows.base.names import is_integer, is_name, is_row
from dealtrows.deal.cases import MAX_NODES, Case, KnownPlaces
from dealtrows.deal.placements import ALL, FIRST, check_placement
from dealtrows.errors import InvalidNumber, InvalidOperation, InvalidRow, InvalidRule, MissingRow, NoNodes, UnknownName
from dealtrows.live.history import Group, History, Trial

_ANY = ("any",)


def _check_nodes(nodes):
    """Refuse what is no number of nodes."""
    if is_integer(nodes) and nodes < 1:
        raise NoNodes(nodes)
    if not is_integer(nodes) or nodes > MAX_NODES:
        raise InvalidNumber(nodes)


def _are_weights(value):
    """Whether the value is a dict from names to tuples of one to four weights."""
    return isinstance(value, dict) and all([is_name(name) and is_row(value[name]) for name in value])


def _have_weights(placement, weights):
    """Whether each spread of a placement has as many weights as its arity."""
    spreads = placement.spreads
    return all([len(weights.get(spread, ())) == spreads[spread] for spread in spreads])


def _check_pair(value):
    if not isinstance(value, tuple) or len(value) != 2:
        raise InvalidOperation("this is no pair of a table and a row")


def _check_many(many):
    if not is_integer(many) or many < 0:
        raise InvalidNumber(many)


def _emptiest(case):
    """The first of the nodes with the fewest rows."""
    many = [many_rows(case.rows_at(node)) for node in range(case.nodes)]
    return many.index(min(many))


def _moves_between(old, new):
    """The ascending tuple of (table, row, before, after) for the rows with other nodes, by the nodes of all rows."""
    told = [(table, row, old.get((table, row), ()), new.get((table, row), ()))
            for table, row in sorted(set([*old, *new]))]
    return tuple([move for move in told if move[2] != move[3]])


class State:
    """The case and the pledged queries of a store at one time. It never changes."""

    def __init__(self, kept, pledged):
        self.kept = kept
        self.nodes_by_pair = kept.lies()
        self.pledged = pledged


class Store:
    """Rows on nodes by a placement, and weights for its spreads."""

    def __init__(self, placement, *, nodes=1, spreads=None):
        check_placement(placement)
        _check_nodes(nodes)
        weights = {} if spreads is None else spreads
        if not _are_weights(weights) or not _have_weights(placement, weights):
            raise InvalidOperation("the spreads are no dict with as many weights as each spread needs")
        self._weights = {name: weights[name] for name in sorted(weights)}
        self._past = History(State(Case(placement, Database.empty(placement.schema), nodes=nodes), {}))

    @property
    def placement(self):
        """The placement."""
        return self._past.now.kept.placement

    @property
    def nodes(self):
        """The number of nodes."""
        return self._past.now.kept.nodes

    @nodes.setter
    def nodes(self, value):
        self.resize(value)

    @property
    def spreads(self):
        """A dict from the names of spreads to their weights."""
        return dict(self._weights)

    @property
    def database(self):
        """The database of the rows."""
        return self._past.now.kept.database

    @property
    def moves(self):
        """The ascending tuple of (table, row, before, after) for the rows that were moved last."""
        return _moves_between(self._past.before.nodes_by_pair, self._past.now.nodes_by_pair)

    def case(self):
        """The case that the store makes now."""
        return self._past.now.kept

    def _node_of(self, place, nodes, lone):
        """The node of a place, by the weights and the nodes of lone rows."""
        if place == FIRST:
            return 0
        if place[0] == "any":
            return lone.get(place[1:], 0) % nodes
        return sum([weight * number for weight, number in zip(self._weights[place[1]], place[2])]) % nodes

    def _go_to(self, placement, database, nodes, lone):
        """Change to the case with these rows, and return the moves."""
        places = [place for place in placement.places_in(database) if place != ALL]
        told = {place: self._node_of(place, nodes, lone) for place in places}
        kept = Case(placement, database, nodes=nodes, spreads=KnownPlaces(told))
        self._past.change(State(kept, self._past.now.pledged))
        return self.moves

    def add(self, table, row, *, node=None):
        """Add a row, by the rule ("any",) on a node that is told or on the first with the fewest rows."""
        now = self._past.now.kept
        if not now.placement.schema.is_row_of(table, row):
            raise InvalidRow("this is no row of the table")
        if node is not None and not (is_integer(node) and 0 <= node < now.nodes):
            raise InvalidNumber(node)
        is_lone = _ANY in now.placement[table]
        if node is not None and not is_lone or (table, row) in now.database:
            raise InvalidOperation("no node can be told for the table, or the row is there")
        database = now.database.with_row(table, row)
        lone = now.lone
        if is_lone:
            lone[table, row] = _emptiest(now) if node is None else node
        return self._go_to(now.placement, database, now.nodes, lone)

    def remove(self, table, row):
        """Remove a row."""
        now = self._past.now.kept
        if table not in now.placement.schema:
            raise UnknownName(table)
        if (table, row) not in now.database:
            raise MissingRow(row)
        left = [pair for pair in now.database.pairs() if pair != (table, row)]
        return self._go_to(now.placement, Database(now.placement.schema, rows_of(left)), now.nodes, now.lone)

    def __iadd__(self, other):
        _check_pair(other)
        self.add(other[0], other[1])
        return self

    def __isub__(self, other):
        _check_pair(other)
        self.remove(other[0], other[1])
        return self

    def placement_with(self, table, rules):
        """The placement with other rules for a table, for which there are weights."""
        placement = self.placement.with_rules(table, *rules)
        if not _have_weights(placement, self._weights):
            raise InvalidOperation("a spread lacks weights, or has another arity")
        return placement

    def put(self, table, *rules):
        """Give a table other rules."""
        now = self._past.now.kept
        return self._go_to(self.placement_with(table, rules), now.database, now.nodes, now.lone)

    def __getitem__(self, at):
        return self._past.now.kept.placement[at]

    def __setitem__(self, at, worth):
        if at not in self._past.now.kept.placement.schema:
            raise UnknownName(at)
        if not isinstance(worth, tuple):
            raise InvalidRule("these are no tuple of rules")
        self.put(at, *worth)

    def __iter__(self):
        raise TypeError("a store is not iterated over")

    def resize(self, nodes):
        """Change the number of nodes."""
        _check_nodes(nodes)
        now = self._past.now.kept
        return self._go_to(now.placement, now.database, nodes, now.lone)

    def ask(self, query):
        """The combined answer."""
        now = self._past.now.kept
        return now(query)

    def __call__(self, query):
        return self.ask(query)

    def undo(self, *, many=1):
        """Take back so many changes, and tell how many can be taken back now."""
        _check_many(many)
        return self._past.step_back(many)

    def redo(self, *, many=1):
        """Do so many changes again, and tell how many can be taken back now."""
        _check_many(many)
        return self._past.step_on(many)

    def group(self):
        """A block whose changes count as one."""
        return Group(self._past, self)

    def grouped(self, call):
        """The result of a call with the store, whose changes count as one."""
        with self.group():
            return call(self)

    def trial(self):
        """A block behind which all is as before."""
        return Trial(self._past, self)

    def during(self, call):
        """The result of a call with the store, behind which all is as before."""
        with self.trial():
            return call(self)

    def twin(self):
        """An independent copy, with its changes."""
        made = Store(self.placement, spreads=self._weights)
        made._past = self._past.outside()
        return made

    def __contains__(self, x):
        return x in self._past.now.kept.database

    def __len__(self):
        return len(self._past.now.kept.database.pairs())

    def __eq__(self, other):
        return (isinstance(other, Store) and self._past.now.kept == other._past.now.kept
                and self._weights == other._weights and self._past.now.pledged == other._past.now.pledged)
