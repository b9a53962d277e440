"""Cases: a database whose rows lie on nodes by a placement."""

from dealtrows.ask.joins import numbers_on
from dealtrows.ask.matches import MAX_MATCHES
from dealtrows.ask.queries import check_query
from dealtrows.base.answers import checked_answer
from dealtrows.base.names import is_number, is_plain
from dealtrows.deal.placements import ALL, FIRST, check_database, check_placement
from dealtrows.errors import InvalidCase, InvalidNumber, InvalidQuery, MissingRow, TooMany, UnknownName

MAX_NODES = 9


def _is_below(value, limit):
    """Whether the value is an integer from 0 to below the limit."""
    return is_number(value) and 0 <= value < limit


def _check_nodes(nodes):
    if not is_number(nodes) or not 1 <= nodes <= MAX_NODES:
        raise InvalidNumber(nodes)


def _check_whole(placement, database, nodes):
    check_placement(placement)
    check_database(placement.schema, database)
    _check_nodes(nodes)


def _are_nodes(value, wanted, nodes):
    """Whether the value is a dict from just the wanted keys to nodes."""
    if not isinstance(value, dict) or len(value) != len(wanted):
        return False
    # Keys with True or False in them would be found in the place of those with 1 or 0.
    return all([key in wanted and is_plain(key) and _is_below(value[key], nodes) for key in value])


def _told_places(found):
    """The ascending tuple of the places, other than ("all",), among the places of pairs."""
    told = [place for pair in found for place in found[pair] if place != ALL]
    return tuple(sorted(set(told)))


def _keys_of(word, places):
    """What stands behind this word in some places."""
    return {place[1:]: True for place in places if place[0] == word}


def _nodes_behind(word, places):
    """A dict to nodes from what stands behind this word in places, a dict to nodes."""
    return {place[1:]: places[place] for place in places if place[0] == word}


def _together(form, parts):
    """The numbers of the heads in some answers of a form, joined or added; numbers can be 0."""
    found = {}
    for numbers in parts:
        for head in numbers:
            found[head] = 1 if form == "distinct" else found.get(head, 0) + numbers[head]
    return found


def check_query_of(schema, value):
    """Refuse a value that is no query of an equal schema."""
    check_query(value)
    if value.schema != schema:
        raise InvalidQuery("this is no query of an equal schema")


def check_case(value):
    """Refuse a value that is no case."""
    if not isinstance(value, Case):
        raise InvalidCase("this is no case")


class KnownPlaces:
    """A dict from the ascending places of all rows to nodes, which needs no check.

    Perhaps it has the nodes where the rows lie, too: a dict from pairs to ascending tuples.
    """

    def __init__(self, by_place, nodes_by_pair=None):
        self.by_place = by_place
        self.nodes_by_pair = nodes_by_pair


def _checked_places(placement, database, nodes, spreads, lone):
    """The known places of a case with these dicts."""
    _check_whole(placement, database, nodes)
    places = _told_places(placement.places_by_pair(database))
    by_spread = {} if spreads is None else spreads
    by_row = {} if lone is None else lone
    if not _are_nodes(by_spread, _keys_of("by", places), nodes):
        raise InvalidCase("the spreads are no dict from just the places by spreads to nodes")
    if not _are_nodes(by_row, _keys_of("any", places), nodes):
        raise InvalidCase("the lone rows are no dict from just the places of lone rows to nodes")
    told = {FIRST: 0}
    told.update({("by", spread, integers): by_spread[spread, integers] for spread, integers in by_spread})
    told.update({("any", table, row): by_row[table, row] for table, row in by_row})
    return KnownPlaces({place: told[place] for place in places})


class Case:
    """A placement, a database, a number of nodes and a node for each place. It never changes."""

    def __init__(self, placement, database, *, nodes, spreads=None, lone=None):
        # Places that the package has found itself are not checked again.
        is_known = isinstance(spreads, KnownPlaces)
        known = spreads if is_known else _checked_places(placement, database, nodes, spreads, lone)
        self._placement = placement
        self._database = database
        self._nodes = nodes
        self._places = known.by_place
        # Where each row lies, and the rows of each node, are found when they are first asked for.
        self._lies = known.nodes_by_pair
        self._rows = None

    def _nodes_at(self, places):
        """The ascending tuple of the nodes of a row with these places."""
        there = list(range(self._nodes)) if ALL in places else [self._places[place] for place in places]
        return tuple(sorted(set(there)))

    def _lies_found(self):
        """A dict from the pairs (table, row) to the ascending tuples of the nodes where they lie."""
        if self._lies is None:
            found = self._placement.places_by_pair(self._database)
            self._lies = {pair: self._nodes_at(found[pair]) for pair in found}
        return self._lies

    def lies(self):
        """A dict, of the caller's own, of the nodes where the pairs lie."""
        return dict(self._lies_found())

    def _rows_dealt(self):
        """For each node a dict from all tables to the lists of the rows that lie there."""
        if self._rows is None:
            lies = self._lies_found()
            rows = [{name: [] for name in self._database.rows} for _ in range(self._nodes)]
            for table, row in self._database.pairs():
                for node in list(lies[table, row]):
                    rows[node][table].append(row)
            self._rows = rows
        return self._rows

    @classmethod
    def of_places(cls, placement, database, nodes, places):
        """The case with the nodes of a dict from just the places of all rows."""
        _check_whole(placement, database, nodes)
        wanted = {place: True for place in _told_places(placement.places_by_pair(database))}
        if not _are_nodes(places, wanted, nodes) or places.get(FIRST, 0) != 0:
            raise InvalidCase("the places are no dict from just the places of all rows to nodes")
        known = KnownPlaces({place: places[place] for place in wanted})
        return cls(placement, database, nodes=nodes, spreads=known)

    @classmethod
    def single(cls, placement, database):
        """The case with a single node."""
        check_placement(placement)
        check_database(placement.schema, database)
        places = _told_places(placement.places_by_pair(database))
        return cls(placement, database, nodes=1, spreads=KnownPlaces({place: 0 for place in places}))

    @property
    def placement(self):
        """The placement."""
        return self._placement

    @property
    def database(self):
        """The database."""
        return self._database

    @property
    def nodes(self):
        """The number of nodes."""
        return self._nodes

    @property
    def spreads(self):
        """A dict from the pairs of a spread and integers to nodes."""
        return _nodes_behind("by", self._places)

    @property
    def lone(self):
        """A dict from the pairs (table, row) of lone rows to nodes."""
        return _nodes_behind("any", self._places)

    @property
    def places(self):
        """A dict from the places of all rows, without ("all",), to nodes."""
        return {place: self._places[place] for place in self._places}

    def nodes_of(self, table, row):
        """The ascending tuple of the nodes where a row lies."""
        if table not in self._placement.schema:
            raise UnknownName(table)
        if (table, row) not in self._database:
            raise MissingRow(row)
        return self._lies_found()[table, row]

    def rows_at(self, node):
        """A dict from all tables to the ascending tuples of the rows that lie on a node."""
        if not _is_below(node, self._nodes):
            raise InvalidNumber(node)
        rows = self._rows_dealt()[node]
        return {table: tuple(rows[table]) for table in rows}

    def _numbers_on(self, query, rows):
        return numbers_on(query.form, query.clauses, rows, MAX_MATCHES)

    def _whole_numbers(self, query):
        """The numbers of the global answer."""
        return self._numbers_on(query, self._database.rows)

    def _combined_numbers(self, query):
        """The numbers of the combined answer, some of them perhaps 0."""
        return _together(query.form, [self._numbers_on(query, rows) for rows in self._rows_dealt()])

    def __call__(self, query):
        check_query_of(self._placement.schema, query)
        found = self._combined_numbers(query)
        return checked_answer(query.form, {head: found[head] for head in found if found[head] != 0})

    def whole(self, query):
        """The global answer."""
        check_query_of(self._placement.schema, query)
        return checked_answer(query.form, self._whole_numbers(query))

    def local(self, query, node):
        """The local answer of a node."""
        check_query_of(self._placement.schema, query)
        return checked_answer(query.form, self._numbers_on(query, self.rows_at(node)))

    def difference(self, query):
        """A dict from the heads with different numbers to the pairs of the combined and the global number."""
        check_query_of(self._placement.schema, query)
        whole = self._whole_numbers(query)
        mine = self._combined_numbers(query)
        told = {head: (mine.get(head, 0), whole.get(head, 0)) for head in sorted(set([*whole, *mine]))}
        return {head: told[head] for head in told if told[head][0] != told[head][1]}

    def is_right(self, query):
        """Whether the combined answer is the global one."""
        return not self.difference(query)

    def with_nodes(self, nodes):
        """The case with another number of nodes."""
        if not is_number(nodes) or not self._least_nodes() <= nodes <= MAX_NODES:
            raise InvalidNumber(nodes)
        return Case(self._placement, self._database, nodes=nodes, spreads=KnownPlaces(self._places))

    def _least_nodes(self):
        """The least number of nodes that is greater than the node of each place."""
        return max([0, *[self._places[place] for place in self._places]]) + 1

    def __len__(self):
        return len(self._database.pairs())

    def __eq__(self, other):
        return (isinstance(other, Case) and self._placement == other._placement and self._database == other._database
                and self._nodes == other._nodes and self._places == other._places)

    def __str__(self):
        return f"case of {self._nodes} nodes, {len(self._database.pairs())} rows"


def is_counterexample(placement, query, value):
    """Whether the value is a case of an equal placement whose combined answer is not the global one."""
    check_placement(placement)
    check_query_of(placement.schema, query)
    if not isinstance(value, Case) or value.placement != placement:
        return False
    try:
        return not value.is_right(query)
    except TooMany:
        return False
