"""Matches of clauses in rows.

Queries and their matches both need these functions, so they stand below both
and take the limit of matches from their callers.
"""

from dealtrows.ask.terms import is_variable
from dealtrows.errors import TooMany


def value_of(term, match):
    """The integer of a term in a match."""
    return match[term] if is_variable(term) else term


def values_of(terms, match):
    """The tuple of the integers of some terms in a match."""
    return tuple([value_of(term, match) for term in terms])


def pairs_of(clause, match):
    """The ascending tuple of the different pairs (table, row) that the parts become."""
    return tuple(sorted(set([(table, values_of(terms, match)) for table, terms in clause.parts])))


def _extended(terms, row, known):
    """The known integers and those that a row gives to these terms, or None if it does not fit."""
    found = dict(known)
    for term, number in zip(terms, row):
        if not is_variable(term):
            if term != number:
                return None
        elif found.setdefault(term, number) != number:
            return None
    return found


def _may_hold(test, known):
    """Whether a test holds, or has a variable without an integer so far."""
    one, word, other = test
    if is_variable(one) and one not in known or is_variable(other) and other not in known:
        return True
    return (value_of(one, known) == value_of(other, known)) == (word == "=")


def _joined(clause, at, rows, known, most):
    """At most so many open matches with these integers, which the parts before this index fit."""
    if at == len(clause.parts):
        return [known]
    table, terms = clause.parts[at]
    found = []
    for row in rows.get(table, ()):
        more = _extended(terms, row, known)
        if more is not None and all([_may_hold(test, more) for test in clause.tests]):
            found.extend(_joined(clause, at + 1, rows, more, most - len(found)))
        # Rows can have millions of open matches; those beyond the limit are not looked for.
        if len(found) >= most:
            break
    return found


def open_list(clause, rows, limit):
    """The list of the open matches in some rows, ascending by their integers."""
    found = _joined(clause, 0, rows, {}, limit + 1)
    if len(found) > limit:
        raise TooMany(limit)
    integers = sorted([values_of(clause.variables, match) for match in found])
    return [dict(zip(clause.variables, values)) for values in integers]


def is_open(clause, rows, match):
    """Whether a dict from the variables to integers is an open match."""
    there = [values_of(terms, match) in rows.get(table, ()) for table, terms in clause.parts]
    return all(there) and all([_may_hold(test, match) for test in clause.tests])


def _is_blocking(terms, row, match):
    """Whether an absence with these terms becomes the row, with some integers for its free variables."""
    return all([is_variable(term) and term not in match or value_of(term, match) == number
                for term, number in zip(terms, row)])


def blockers(clause, rows, match):
    """The ascending tuple of the pairs of the rows that an absence becomes in an open match."""
    found = [(table, row) for table, terms in clause.absences for row in rows.get(table, ())
             if _is_blocking(terms, row, match)]
    return tuple(sorted(set(found)))


def match_list(clause, rows, limit):
    """The list of the matches in some rows, ascending by their integers."""
    return [match for match in open_list(clause, rows, limit) if not blockers(clause, rows, match)]


def number_of(form, clause, match):
    """What a match adds to the number of its head."""
    return value_of(clause.summed, match) if form == "sum" else 1


def numbers_on(form, clauses, rows, limit):
    """The numbers of the answer of some clauses on some rows."""
    found = {}
    for clause in clauses:
        for match in match_list(clause, rows, limit):
            head = values_of(clause.head, match)
            more = number_of(form, clause, match)
            found[head] = 1 if form == "distinct" else found.get(head, 0) + more
    return {head: found[head] for head in found if found[head] != 0}
