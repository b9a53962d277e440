"""Ties: what absences ask for in some rows, and where the rows that block them lie."""

from dealtrows.ask.joins import open_list, value_of
from dealtrows.ask.absences import tied_columns
from dealtrows.base.schemas import picked
from dealtrows.deal.placements import ALL, FIRST


def _tie_of(schema, clause, absence, match):
    """The tie of an absence of a clause in an open match."""
    table, terms = absence
    columns = schema.columns_of(table)
    tied = tied_columns(schema, clause, absence)
    return (table, tuple([(column, value_of(term, match)) for column, term in zip(columns, terms) if column in tied]))


def ties_in(query, rows, limit):
    """The ascending tuple of the ties in some rows, in which no clause may have more open matches than the limit."""
    found = []
    for clause in query.clauses:
        for match in open_list(clause, rows, limit):
            found.extend([_tie_of(query.schema, clause, absence, match) for absence in clause.absences])
    return tuple(sorted(set(found)))


def _parent_of(schema, by_pair, told, reference):
    """The pair that is the parent, by a reference, of the rows with these integers by columns."""
    _, columns, parent, key = reference
    wanted = tuple([told[column] for column in columns])
    named = schema.columns_of(parent)
    return [pair for pair in by_pair if pair[0] == parent and picked(named, pair[1], key) == wanted][0]


def parent_pair(schema, by_pair, table, row, name):
    """The pair of the parent, by the reference of this name, of a blocking row."""
    told = dict(zip(schema.columns_of(table), row))
    return _parent_of(schema, by_pair, told, schema.references[name])


def given_places(placement, by_pair, tie):
    """The places of the rows that block a tie, by the places of the rows of a pattern, or None if they are open."""
    table, pairs = tie
    told = dict(pairs)
    rule = placement[table][0]
    if rule == ALL or rule == FIRST:
        return (rule,)
    if rule[0] == "with":
        # The rules of absences see to it that the parent is a row of the match.
        return by_pair[_parent_of(placement.schema, by_pair, told, placement.schema.references[rule[1]])]
    if rule[0] == "by" and all([column in told for column in rule[2]]):
        return (("by", rule[1], tuple([told[column] for column in rule[2]])),)
    return None


def is_single(schema, tie):
    """Whether a tie has at most one blocking row: a key, or the whole row, consists of tied columns."""
    table, pairs = tie
    told = dict(pairs)
    keys = [*schema.keys_of(table), schema.columns_of(table)]
    return any([all([column in told for column in key]) for key in keys])


def is_blocked_by(tie, other):
    """Whether the rows that are made to block another tie block this one, too."""
    # New integers of such rows are no integers of ties.
    return tie[0] == other[0] and all([pair in other[1] for pair in tie[1]])


def open_place(placement, tie, row):
    """The place of a row that blocks a tie whose place is open."""
    table = tie[0]
    rule = placement[table][0]
    if rule[0] == "any":
        return ("any", table, row)
    return ("by", rule[1], picked(placement.schema.columns_of(table), row, rule[2]))
