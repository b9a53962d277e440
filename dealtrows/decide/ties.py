"""Ties: what absences ask for in some rows, and where the rows that block them lie."""

from dealtrows.ask.joins import tied_values
from dealtrows.base.schemas import picked
from dealtrows.deal.placements import ALL, FIRST


def ties_in(query, rows, limit):
    """The ascending tuple of the ties in some rows, in which no clause may have more open matches than the limit."""
    found = []
    for clause in query.clauses:
        for table, places, values in tied_values(clause, rows, limit):
            named = query.schema.columns_of(table)
            columns = [named[place] for place in places]
            found.extend([(table, tuple(zip(columns, numbers))) for numbers in values])
    return tuple(sorted(set(found)))


def _parent_of(schema, by_pair, told, reference):
    """The pair that is the parent, by a reference, of the rows with these integers by columns."""
    _, columns, parent, key = reference
    wanted = tuple([told[column] for column in columns])
    named = schema.columns_of(parent)
    return [pair for pair in by_pair if pair[0] == parent and picked(named, pair[1], key) == wanted][0]


def parent_pair(schema, by_pair, table, row, name):
    """The pair of the parent, by the reference of this name, of a blocking row."""
    told = dict(zip(schema.columns_of(table), row))
    return _parent_of(schema, by_pair, told, schema.references[name])


class Kind:
    """A table and tied columns, and what the rows that block ties of this kind have in common by a placement."""

    def __init__(self, placement, table, places):
        self._schema = placement.schema
        self._table = table
        named = self._schema.columns_of(table)
        columns = [named[place] for place in places]
        self._columns = columns
        self._rule = placement[table][0]
        word = self._rule[0]
        # Where the place of blocking rows is given by the tie alone, it does not lie with their parents.
        self.is_told = word == "first" or word == "by" and all([column in columns for column in self._rule[2]])
        self.is_given = self.is_told or word in ("all", "with")
        keys = [*self._schema.keys_of(table), named]
        # A tie has at most one blocking row if a key, or the whole row, consists of tied columns.
        self.is_single = any([all([column in columns for column in key]) for key in keys])

    def tie_with(self, numbers):
        """The tie with these integers in the tied columns."""
        return (self._table, tuple(zip(self._columns, numbers)))

    def told_place(self, numbers):
        """The place that is given by a tie alone, with these integers or what stands for them."""
        if self._rule == FIRST:
            return FIRST
        return ("by", self._rule[1], picked(self._columns, numbers, self._rule[2]))

    def given_places(self, numbers, by_pair):
        """The places of the rows that block a tie, by the places of the rows of a pattern, or None if they are open."""
        if self.is_told:
            return (self.told_place(numbers),)
        if not self.is_given:
            return None
        if self._rule == ALL:
            return (ALL,)
        # The rules of absences see to it that the parent is a row of the match.
        reference = self._schema.references[self._rule[1]]
        return by_pair[_parent_of(self._schema, by_pair, dict(zip(self._columns, numbers)), reference)]


def is_blocked_by(tie, other):
    """Whether the rows that are made to block another tie block this one, too."""
    # New integers of such rows are no integers of ties.
    return tie[0] == other[0] and all([pair in other[1] for pair in tie[1]])


def open_place(placement, tie, row):
    """The place of a row that blocks a tie whose place is open."""
    table = tie[0]
    rule = placement[table][0]
    if rule[0] == "any":
        return ("any", table, row)
    return ("by", rule[1], picked(placement.schema.columns_of(table), row, rule[2]))
