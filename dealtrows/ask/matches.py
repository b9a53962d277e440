"""The matches of queries in rows, which need not be a database."""

from dealtrows.ask.joins import blockers, check_many, is_open, match_list, numbers_on, open_list, pairs_of, values_of
from dealtrows.ask.queries import check_query
from dealtrows.base.answers import checked_answer
from dealtrows.base.databases import MAX_ROWS, is_rows, many_rows
from dealtrows.base.names import are_integers, is_integer, is_number
from dealtrows.errors import InvalidNumber, InvalidOperation, InvalidRow

MAX_MATCHES = 2000


def _clause_at(query, index):
    """The clause of a query with this index."""
    check_query(query)
    if not is_number(index) or not 0 <= index < len(query):
        raise InvalidNumber(index)
    return query.clauses[index]


def check_rows(query, rows):
    if not is_rows(query.schema, rows) or many_rows(rows) > MAX_ROWS:
        raise InvalidRow("these are no rows of the schema, or too many")


def is_assignment(clause, value):
    """Whether the value is a dict from exactly the variables of the parts to integers."""
    if not isinstance(value, dict) or len(value) != len(clause.variables):
        return False
    return all([name in value and is_integer(value[name]) for name in clause.variables])


def _check_assignment(clause, match):
    if not is_assignment(clause, match):
        raise InvalidOperation("this is no dict from exactly the variables of the parts to integers")


def matches(query, index, rows):
    """The matches of a clause in some rows, ascending by their integers."""
    clause = _clause_at(query, index)
    check_rows(query, rows)
    yield from match_list(clause, rows, MAX_MATCHES)


def open_matches(query, index, rows):
    """The matches of a clause without its absences, ascending by their integers."""
    clause = _clause_at(query, index)
    check_rows(query, rows)
    yield from open_list(clause, rows, MAX_MATCHES)


def is_match(query, index, rows, value):
    """Whether the value is a match of a clause in some rows."""
    clause = _clause_at(query, index)
    check_rows(query, rows)
    # The limit of open matches holds for every value.
    check_many(clause, rows, MAX_MATCHES)
    return is_assignment(clause, value) and is_open(clause, rows, value) and not blockers(clause, rows, value)


def match_head(query, index, match):
    """The head of a match, with integers."""
    clause = _clause_at(query, index)
    _check_assignment(clause, match)
    return values_of(clause.head, match)


def match_rows(query, index, match):
    """The ascending tuple of the different pairs (table, row) that the parts of a clause become."""
    clause = _clause_at(query, index)
    _check_assignment(clause, match)
    return pairs_of(clause, match)


def blocking_rows(query, index, rows, match):
    """The ascending tuple of the pairs of the rows that an absence becomes in an open match."""
    clause = _clause_at(query, index)
    check_rows(query, rows)
    _check_assignment(clause, match)
    if not is_open(clause, rows, match):
        raise InvalidOperation("this is no open match in the rows")
    check_many(clause, rows, MAX_MATCHES)
    return blockers(clause, rows, match)


def witnesses(query, rows, head):
    """The pairs (index, match) of all matches with this head."""
    check_query(query)
    check_rows(query, rows)
    if not are_integers(head) or len(head) != query.width:
        raise InvalidOperation("this is no head of the query")
    # All clauses are matched before the first result, so that too many matches are told at once.
    found = [match_list(clause, rows, MAX_MATCHES, head) for clause in query.clauses]
    for index, told in enumerate(found):
        for match in told:
            yield (index, match)


def answer_on(query, rows):
    """The answer of a query on some rows."""
    check_query(query)
    check_rows(query, rows)
    return checked_answer(query.form, numbers_on(query.form, query.clauses, rows, MAX_MATCHES))
