"""Plans: what the small cases of one pattern are made of."""

from dealtrows.ask.matches import MAX_MATCHES
from dealtrows.base.databases import Database, rows_of
from dealtrows.deal.cases import Case
from dealtrows.deal.placements import ALL, FIRST
from dealtrows.decide.patterns import bound_of
from dealtrows.decide.ties import given_places, is_single, open_place, ties_in
from dealtrows.errors import BrokenConstraint


def numbered(places):
    """The places in the order in which their nodes are numbered."""
    return [*[place for place in places if place == FIRST], *[place for place in places if place != FIRST]]


def node_layouts(places):
    """The list of the layouts of ascending places, dicts from places to nodes."""
    found = [()]
    for _ in places:
        found = [(*nodes, node) for nodes in found for node in range(len(set(nodes)) + 1)]
    order = numbered(places)
    told = [dict(zip(order, nodes)) for nodes in found]
    return [{place: layout[place] for place in places} for layout in told]


def _apart(places):
    """The layout that gives a node of its own to each place."""
    told = {place: node for node, place in enumerate(numbered(places))}
    return {place: told[place] for place in places}


def _layouts_by_nodes(many):
    """For each number of nodes from 0 to that of the places: how many layouts of so many places have it."""
    found = [1]
    for _ in range(many):
        longer = [0, *found]
        for at in range(len(found)):
            longer[at] += at * found[at]
        found = longer
    return found


class Plan:
    """A pattern of a query with its places and its ties."""

    def __init__(self, placement, query, pattern):
        self._deal = placement
        self._asked = query
        self._pattern = pattern
        rows = pattern.database
        tables = [table for clause in query.clauses for table, _ in clause.parts]
        found = placement.places_by_pair(rows)
        told = [place for pair in found if pair[0] in tables for place in found[pair]]
        self._own = tuple(sorted(set([place for place in told if place != ALL])))
        # Patterns have at most eight rows, so that their open matches are never too many.
        self._ties = ties_in(query, rows.rows, MAX_MATCHES)
        self._given = [given_places(placement, rows, tie) for tie in self._ties]
        more = [place for given in self._given if given is not None for place in given]
        self._wanted = tuple(sorted(set([place for place in [*told, *more] if place != ALL])))

    def pattern(self):
        """The pattern."""
        return self._pattern

    def own_places(self):
        """The ascending tuple of the places of the rows in tables of parts."""
        return self._own

    def all_places(self):
        """The ascending tuple of these places and of the given ones of ties."""
        return self._wanted

    def is_apart(self):
        """Whether each place has a node of its own: the query is distinct and has no absences."""
        return self._asked.form == "distinct" and not any([clause.absences for clause in self._asked.clauses])

    def _sets_of(self, at, nodes):
        """The sets of nodes, ascending tuples, on which a tie can have a blocking row.

        One row of a given place stands for itself, whatever its nodes are: (0,).
        """
        if self._given[at] is not None:
            return [(), (0,)]
        found = [(), *[(node,) for node in range(nodes)]]
        if not is_single(self._asked.schema, self._ties[at]) and nodes > 1:
            if self._asked.form == "distinct":
                found.append(tuple(range(nodes)))
            else:
                found.extend([(low, high) for high in range(nodes) for low in range(high)])
        return found

    def _many_sets(self, nodes):
        """How many choices of sets of nodes there are for all ties."""
        many = 1
        for at in range(len(self._ties)):
            many = many * len(self._sets_of(at, nodes))
        return many

    def many_choices(self):
        """How many choices there are, also those that break keys."""
        if self.is_apart():
            return 1
        by_nodes = _layouts_by_nodes(len(self._wanted))
        total = 0
        for used in range(len(by_nodes)):
            least = max(1, used)
            total += by_nodes[used] * (self._many_sets(least) + self._many_sets(least + 1))
        return total

    def _all_layouts(self):
        """The layouts with the numbers of nodes of their cases."""
        if self.is_apart():
            return [(_apart(self._wanted), max(1, len(self._wanted)))]
        found = []
        for layout in node_layouts(self._wanted):
            least = max([0, *[layout[place] for place in layout]]) + 1
            found.extend([(layout, least), (layout, least + 1)])
        return found

    def _choices_of_sets(self, nodes):
        """The list of the tuples with a set of nodes for each tie."""
        found = [()]
        for at in range(len(self._ties)):
            sets = self._sets_of(at, nodes)
            found = [(*told, chosen) for told in found for chosen in sets]
        return found

    def _blocking_rows(self, sizes):
        """For each tie so many blocking rows, with new integers in the columns that are not tied."""
        least = -bound_of(self._asked)
        found = []
        for (table, pairs), size in zip(self._ties, sizes):
            told = dict(pairs)
            rows = []
            for _ in range(size):
                row = []
                for column in self._asked.schema.columns_of(table):
                    if column not in told:
                        least -= 1
                    row.append(told.get(column, least))
                rows.append(tuple(row))
            found.append(rows)
        return found

    def _database_with(self, blocking):
        """The database of the pattern with some blocking rows, or None if they break a key."""
        pairs = list(self._pattern.database.pairs())
        for at in range(len(blocking)):
            table = self._ties[at][0]
            pairs.extend([(table, row) for row in blocking[at]])
        try:
            return Database(self._asked.schema, rows_of(pairs))
        except BrokenConstraint:
            return None

    def _case_with(self, database, blocking, chosen, layout, nodes):
        """The case with these rows: places that are not told, those of parents, are node 0."""
        told = {place: layout[place] for place in layout}
        for at in range(len(self._ties)):
            if self._given[at] is None:
                for row, node in zip(blocking[at], chosen[at]):
                    told[open_place(self._deal, self._ties[at], row)] = node
        places = [place for place in self._deal.places_in(database) if place != ALL]
        return Case.of_places(self._deal, database, nodes, {place: told.get(place, 0) for place in places})

    def planned_cases(self, is_wanted):
        """The cases of all layouts that are wanted."""
        # Cases with equally many rows for each tie have the same rows.
        made = {}
        for layout, nodes in self._all_layouts():
            if is_wanted(layout):
                for chosen in self._choices_of_sets(nodes):
                    sizes = tuple([len(told) for told in chosen])
                    if sizes not in made:
                        blocking = self._blocking_rows(sizes)
                        made[sizes] = (self._database_with(blocking), blocking)
                    database, blocking = made[sizes]
                    if database is not None:
                        yield self._case_with(database, blocking, chosen, layout, nodes)
