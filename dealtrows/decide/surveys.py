"""Surveys: how many places, ties and choices the patterns of a query have for a placement.

They are counted in terms of drafts, before anything of a pattern is made.
"""

from dealtrows.deal.placements import ALL
from dealtrows.decide.folds import tie_kinds
from dealtrows.decide.layouts import LAYOUTS_BY_NODES
from dealtrows.decide.patterns import drafts_of
from dealtrows.decide.ties import Kind


def _without_repeats(values):
    """The tuple of the different values, in their order."""
    return tuple({value: True for value in values})


def _place_with(way, values):
    """The place that a place of a draft becomes."""
    if len(way) == 1:
        return way
    return (way[0], way[1], tuple([values[at] for at in way[2]]))


class Deal:
    """A draft, and the places of its lines by a placement, in terms of the draft."""

    def __init__(self, placement, draft, tables, kinds):
        self.draft = draft
        self._kinds = kinds
        parents = {(child, name): line for child, name, line in draft.parent_lines}
        lines = list(range(len(draft.line_terms)))
        self._ways = [_without_repeats(self._ways_of(placement, parents, line)) for line in lines]
        self.own = [line for line, (table, _) in enumerate(draft.line_terms) if table in tables]
        self._own_ways = _without_repeats([way for line in self.own for way in self._ways[line] if way != ALL])
        # The pattern of different values has so many places, and each other one has no more of its own.
        self.many_places = len(self._own_ways)
        tied = draft.tied_places() if kinds else []
        more = [kinds[at].told_place(places) for at, places in tied if kinds[at].is_told]
        self.most_places = len(_without_repeats([*self._own_ways, *more]))
        self._alone, self._alike = self._by_likeness()
        self.shared = self._shared([self._ways[line] for line in draft.part_lines])

    def _shared(self, parts):
        """The places that the parts have in the draft, and so in each pattern."""
        told = [ways for ways in parts if ALL not in ways]
        return (ALL,) if not told else tuple([way for way in told[0] if all([way in ways for ways in told])])

    def _by_likeness(self):
        """How many own places can be no other one, and the lists of the terms of those that can be one another."""
        found = {}
        for way in self._own_ways:
            found.setdefault(way[:2], []).append(way[-1])
        alike = [told for told in found.values() if len(told) > 1]
        return (len(found) - len(alike), alike)

    def _ways_of(self, placement, parents, line):
        """The places of a line, perhaps repeated."""
        table, terms = self.draft.line_terms[line]
        found = []
        for word, name, at in placement.ways_of(table):
            if word == "by":
                found.append((word, name, tuple([terms[place] for place in at])))
            elif word == "with":
                found.extend(self._ways_of(placement, parents, parents[line, name]))
            elif word == "any":
                found.append((word, table, tuple(terms)))
            else:
                found.append((word,))
        return found

    def places_with(self, values):
        """For each line the tuple of the places of its row, perhaps repeated."""
        return [tuple([_place_with(way, values) for way in ways]) for ways in self._ways]

    def _many_own(self, values):
        """How many own places a pattern has."""
        many = self._alone
        for told in self._alike:
            many += len({tuple([values[at] for at in terms]) for terms in told})
        return many

    def _many_all(self, values, ties):
        """How many places a pattern with these ties has."""
        own = [_place_with(way, values) for way in self._own_ways]
        more = [self._kinds[at].told_place(numbers) for at, numbers in ties if self._kinds[at].is_told]
        return len(set([*own, *more]))

    def tally(self, values):
        """The numbers of places, of given ties, of open ones with at most one row, and of other ones of a pattern."""
        if not self._kinds:
            return (self._many_own(values), 0, 0, 0)
        ties = self.draft.ties_with(values)
        # Where the draft has no more places than its own, no pattern has.
        is_own = self.most_places == self.many_places
        places = self._many_own(values) if is_own else self._many_all(values, ties)
        told = [self._kinds[at] for at, _ in ties]
        given = len([kind for kind in told if kind.is_given])
        single = len([kind for kind in told if not kind.is_given and kind.is_single])
        return (places, given, single, len(told) - given - single)


def _times(number, factor, many):
    """The number, multiplied so many times by the factor."""
    found = number
    for _ in range(many):
        found = found * factor
    return found


class Survey:
    """What is found of a placement and a query that have small cases before any of them is made.

    The query keeps it, so that it does not have the query itself.
    """

    def __init__(self, placement, query):
        self.ruled = placement
        self.all_kinds = [Kind(placement, table, places) for table, places in tie_kinds(query.clauses)]
        self._is_distinct = query.form == "distinct"
        # Each place has a node of its own if the query is distinct and has no absences.
        self.is_apart = self._is_distinct and not self.all_kinds
        tables = [table for clause in query.clauses for table, _ in clause.parts]
        drafts = [draft for draft in drafts_of(query) if draft is not None]
        self.deals = [Deal(placement, draft, tables, self.all_kinds) for draft in drafts]
        # For each pattern its deal, its values and its number of classes, or the limit that places or cases exceed.
        self.entries = []
        self.limit = None
        self._counts = {}

    def _many_sets(self, nodes, single, other):
        """How many choices of sets of so many nodes there are for open ties."""
        more = 0
        if nodes > 1:
            more = 1 if self._is_distinct else nodes * (nodes - 1) // 2
        return _times(_times(1, 1 + nodes, single), 1 + nodes + more, other)

    def many_choices(self, tally):
        """How many choices a pattern with this tally has, also those that break keys."""
        if tally not in self._counts:
            places, given, single, other = tally
            total = 0
            for used, number in enumerate(LAYOUTS_BY_NODES[places]):
                for nodes in (max(1, used), max(1, used) + 1):
                    total += number * self._many_sets(nodes, single, other)
            self._counts[tally] = _times(total, 2, given)
        return self._counts[tally]
