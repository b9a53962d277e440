"""Small cases: finitely many cases that decide whether a query is right for a placement."""

from dealtrows.ask.matches import MAX_MATCHES, check_rows
from dealtrows.ask.queries import check_query
from dealtrows.base.names import is_ascending
from dealtrows.deal.cases import Case
from dealtrows.deal.placements import check_placement, is_place
from dealtrows.decide.patterns import patterns
from dealtrows.decide.plans import Plan, node_layouts
from dealtrows.decide.ties import ties_in
from dealtrows.errors import InvalidOperation, TooMany

MAX_PLACES = 6
MAX_CASES = 2000


def _check_fit(placement, query):
    """Refuse a query of another schema, or with absences of a table with two rules."""
    if placement.schema != query.schema:
        raise InvalidOperation("the schemas differ")
    tables = [table for clause in query.clauses for table, _ in clause.absences]
    if any([len(placement[table]) > 1 for table in tables]):
        raise InvalidOperation("the table of an absence has two rules")


def check_decidable(placement, query):
    """Refuse what is no placement and no query that have small cases."""
    check_placement(placement)
    check_query(query)
    _check_fit(placement, query)


def ties(placement, query, rows):
    """The ascending tuple of all ties in some rows."""
    check_decidable(placement, query)
    check_rows(query, rows)
    return ties_in(query, rows, MAX_MATCHES)


def layouts(places):
    """The layouts of some places, dicts from places to nodes, each once."""
    if not isinstance(places, tuple) or not all([is_place(place) for place in places]) or not is_ascending(places):
        raise InvalidOperation("these are no ascending tuple of places")
    if len(places) > MAX_PLACES:
        raise TooMany(MAX_PLACES)
    for layout in node_layouts(places):
        yield layout


def plans_of(placement, query):
    """The plans of all patterns, refused if they have too many places or cases."""
    check_decidable(placement, query)
    found = [Plan(placement, query, pattern) for pattern in patterns(query)]
    if any([len(plan.all_places()) > MAX_PLACES for plan in found]):
        raise TooMany(MAX_PLACES)
    if sum([plan.many_choices() for plan in found]) > MAX_CASES:
        raise TooMany(MAX_CASES)
    return found


def case_key(case):
    """What tells two cases of one placement apart, as the key of a dict."""
    places = case.places
    return (case.nodes, case.database.pairs(), tuple([(place, places[place]) for place in places]))


def small_cases(placement, query):
    """The small cases, each once."""
    seen = {}
    for plan in plans_of(placement, query):
        for case in plan.planned_cases(lambda layout: True):
            key = case_key(case)
            # Patterns of several clauses can make the same case, and layouts of given places without a row.
            if key not in seen:
                seen[key] = True
                yield case


def is_small_case(placement, query, value):
    """Whether the value is a small case."""
    found = plans_of(placement, query)
    if not isinstance(value, Case) or value.placement != placement:
        return False
    wanted = case_key(value)
    return any([case_key(case) == wanted for plan in found for case in plan.planned_cases(lambda layout: True)])
