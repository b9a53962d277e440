"""Plans: what the small cases of one pattern are made of.

A choice of a plan is a layout of its places, a number of nodes, and for each
tie a set of nodes, an ascending tuple, on which it has a blocking row. One row
of a given place stands for itself, whatever its nodes are: (0,).
"""

from dealtrows.base.databases import Database, known_rows
from dealtrows.base.schemas import picked
from dealtrows.deal.cases import Case, KnownPlaces
from dealtrows.deal.placements import ALL
from dealtrows.decide.drafts import bound_of
from dealtrows.decide.layouts import all_layouts, apart, many_nodes
from dealtrows.decide.patterns import pattern_with
from dealtrows.decide.ties import open_place, parent_pair


class Plan:
    """A pattern of a query with its places and its ties."""

    def __init__(self, ground, deal, values, used):
        self.ground = ground
        self.deal = deal
        self.valued = values
        self._used = used
        self.line_pairs = deal.draft.pairs_with(values)
        places = deal.places_with(values)
        # A row of several lines has the same places by each of them.
        self.by_pair = dict(zip(self.line_pairs, places))
        told = [place for line in deal.own for place in places[line]]
        self.own_places = tuple(sorted(set([place for place in told if place != ALL])))
        self.ties = ()
        self.given = []
        self._kinds = []
        self.all_places = self.own_places
        if ground.all_kinds:
            self._take_ties()
        self._blocking = {}
        self._frames = {}

    def rows_by_table(self):
        """The rows of the pattern, as lists by tables."""
        found = {}
        for table, row in self.by_pair:
            found.setdefault(table, []).append(row)
        return found

    def known_matches(self):
        """For each clause the list of what is known by its open matches in the pattern."""
        rows = self.rows_by_table()
        return [chain.found(rows) for chain, _, _ in self.ground.chains()]

    def pairs_of_parts(self, clause, known):
        """The pairs (table, row) that the parts of a clause become, perhaps repeated."""
        return [(table, tuple([known[at] for at in where])) for table, where in self.ground.chains()[clause][2]]

    def ties_of(self, clause, known):
        """The ties of an open match of a clause, one for each absence."""
        return [(table, tuple([(column, known[at]) for column, at in tied]))
                for table, tied in self.ground.chains()[clause][1]]

    def _take_ties(self):
        """Find the ties in the rows of the pattern, and the places that are given for them."""
        kinds = self.ground.all_kinds
        found = [(kinds[at].tie_with(numbers), at, numbers) for at, numbers in self.deal.draft.ties_with(self.valued)]
        told = sorted(found)
        self.ties = tuple([tie for tie, _, _ in told])
        self._kinds = [kinds[at] for _, at, _ in told]
        self.given = [kinds[at].given_places(numbers, self.by_pair) for _, at, numbers in told]
        more = [place for places in self.given if places is not None for place in places if place != ALL]
        self.all_places = tuple(sorted(set([*self.own_places, *more])))

    def pattern(self):
        """The pattern."""
        return pattern_with(self.deal.draft, self.valued, self._used)

    def _sets_of(self, at, nodes):
        """The sets of nodes on which a tie can have a blocking row."""
        if self.given[at] is not None:
            return [(), (0,)]
        found = [(), *[(node,) for node in range(nodes)]]
        if nodes > 1 and not self._kinds[at].is_single:
            if self.ground.asked.form == "distinct":
                found.append(tuple(range(nodes)))
            else:
                found.extend([(low, high) for high in range(nodes) for low in range(high)])
        return found

    def laid_out(self):
        """The list of the layouts, each with a number of nodes."""
        if self.ground.is_apart:
            return [(apart(self.all_places), max(1, len(self.all_places)))]
        told = [(layout, many_nodes(layout)) for layout in all_layouts(self.all_places)]
        return [(layout, least + more) for layout, least in told for more in (0, 1)]

    def sets(self, nodes):
        """The list of the tuples with a set of nodes for each tie, of those that keep all keys."""
        found = [()]
        for at in range(len(self.ties)):
            sets = self._sets_of(at, nodes)
            found = [(*told, chosen) for told in found for chosen in sets]
        return found if not self.ties else [chosen for chosen in found if self._blocking_with(chosen) is not None]

    def _blocking_rows(self, sizes):
        """For each tie so many blocking rows, with new integers in the columns that are not tied."""
        least = -bound_of(self.ground.asked)
        found = []
        for (table, pairs), size in zip(self.ties, sizes):
            told = dict(pairs)
            rows = []
            for _ in range(size):
                row = []
                for column in self.ground.of_schema.columns_of(table):
                    if column not in told:
                        least -= 1
                    row.append(told.get(column, least))
                rows.append((table, tuple(row)))
            found.append(rows)
        return found

    def _keep_keys(self, pairs):
        """Whether no two of some different pairs agree on a key."""
        schema = self.ground.of_schema
        keys = [(table, key, picked(schema.columns_of(table), row, key))
                for table, row in pairs for key in schema.keys_of(table)]
        return len(set(keys)) == len(keys)

    def _blocking_with(self, chosen):
        """The blocking rows for some sets of nodes, by ties, or None if they break a key."""
        sizes = tuple([len(nodes) for nodes in chosen])
        if sizes not in self._blocking:
            found = self._blocking_rows(sizes)
            is_kept = self._keep_keys([pair for pairs in found for pair in pairs])
            self._blocking[sizes] = found if is_kept else None
        return self._blocking[sizes]

    def frame(self, chosen):
        """What cases with so many blocking rows, which break no key, have in common."""
        sizes = tuple([len(nodes) for nodes in chosen])
        if sizes not in self._frames:
            self._frames[sizes] = Frame(self, self._blocking_with(chosen))
        return self._frames[sizes]


class Frame:
    """The rows of cases of a plan with equally many blocking rows, and the places of these rows."""

    def __init__(self, plan, blocking):
        self._plan = plan
        self._more = [pair for pairs in blocking for pair in pairs]
        self._pairs = tuple(sorted([*plan.by_pair, *self._more]))
        self._database = None
        self._number = plan.ground.number_of(self._pairs)
        at = {place: index for index, place in enumerate(plan.all_places)}
        # All other places, of parents, are node 0, which stands behind the nodes of the layout.
        zero = len(at)
        there = [place for pair in plan.by_pair for place in plan.by_pair[pair] if place != ALL]
        told = {place: at.get(place, zero) for place in there}
        given = [places for pairs, places in zip(blocking, plan.given) if pairs and places is not None]
        told.update({place: at[place] for places in given for place in places if place != ALL})
        found = [open_place(plan.ground.ruled, plan.ties[index], row) for index, pairs in enumerate(blocking)
                 if plan.given[index] is None for _, row in pairs]
        told.update({place: zero + 1 + index for index, place in enumerate(found)})
        self._places = sorted(told)
        self._where = [told[place] for place in self._places]

    def _made_database(self):
        """The database of these rows."""
        plan = self._plan
        schema = plan.ground.of_schema
        parents = plan.deal.draft.parents_with(plan.line_pairs)
        parents.update({(name, row): parent_pair(schema, plan.by_pair, table, row, name)
                        for table, row in self._more for name in schema.references_of(table)})
        return Database(schema, known_rows(schema, self._pairs, parents))

    def nodes_with(self, layout, chosen):
        """The tuple of the nodes of the ascending places."""
        more = [node for given, nodes in zip(self._plan.given, chosen) if given is None for node in nodes]
        told = [*layout, 0, *more]
        return tuple([told[at] for at in self._where])

    def key_with(self, nodes, found):
        """What tells a case with so many nodes, and these nodes of its places, apart from others of its ground."""
        return (self._number, nodes, found)

    def case_with(self, nodes, found):
        """The case with so many nodes, and these nodes of its places."""
        if self._database is None:
            self._database = self._made_database()
        known = KnownPlaces(dict(zip(self._places, found)))
        return Case(self._plan.ground.ruled, self._database, nodes=nodes, spreads=known)
