"""Tight counterexamples: those in which nothing can be left out."""

from dealtrows.ask.joins import open_list, values_of
from dealtrows.ask.matches import MAX_MATCHES
from dealtrows.ask.queries import check_query
from dealtrows.deal.cases import Case, check_case, is_counterexample
from dealtrows.deal.placements import ALL, FIRST
from dealtrows.decide.patterns import pattern_in, pattern_key, values_in_pattern
from dealtrows.decide.shrink import absent_pairs, smaller_pairs
from dealtrows.decide.smallcases import plans_of
from dealtrows.errors import InvalidOperation, TooMany

MAX_BLOCKING = 8


def subcase(case, *pairs):
    """The subcase with the closure of some pairs (table, row)."""
    check_case(case)
    database = case.database.closure_of(*pairs)
    places = case.places
    told = [place for place in case.placement.places_in(database) if place != ALL]
    return Case.of_places(case.placement, database, case.nodes, {place: places[place] for place in told})


def is_subcase(case, value):
    """Whether the value is a subcase of a case."""
    check_case(case)
    if not isinstance(value, Case) or value.placement != case.placement or value.nodes != case.nodes:
        return False
    if not value.database.is_within(case.database):
        return False
    mine, others = case.places, value.places
    return all([mine[place] == others[place] for place in others])


def is_tight(query, value):
    """Whether the value is a tight counterexample with at most eight rows in tables of absences."""
    check_query(query)
    if not isinstance(value, Case) or value.placement.schema != query.schema:
        return False
    if not is_counterexample(value.placement, query, value):
        return False
    return len(absent_pairs(query, value.database)) <= MAX_BLOCKING and smaller_pairs(query, value) is None


def _check_counterexample(query, case):
    """Refuse what is no counterexample of a query."""
    check_query(query)
    check_case(case)
    if case.placement.schema != query.schema:
        raise InvalidOperation("the schemas differ")
    if case.is_right(query):
        raise InvalidOperation("the case is no counterexample")


def tightened(query, case):
    """A tight subcase of a counterexample."""
    _check_counterexample(query, case)
    if len(absent_pairs(query, case.database)) > MAX_BLOCKING:
        raise TooMany(MAX_BLOCKING)
    found = case
    pairs = smaller_pairs(query, found)
    while pairs is not None:
        found = subcase(found, *pairs)
        pairs = smaller_pairs(query, found)
    return found


def _open_matches_of(query, case):
    """The pairs (index, open match) of a case, those whose heads have wrong numbers first."""
    wrong = case.difference(query)
    told = [(index, match, values_of(clause.head, match) in wrong) for index, clause in enumerate(query.clauses)
            for match in open_list(clause, case.database.rows, MAX_MATCHES)]
    first = [(index, match) for index, match, is_wrong in told if is_wrong]
    return first + [(index, match) for index, match, is_wrong in told if not is_wrong]


def _place_before(place, integers):
    """The place of a row of a case, for one of a row of a pattern and the integers that its values stand for."""
    if place == FIRST:
        return place
    return (place[0], place[1], tuple([integers[value] for value in place[2]]))


def _nodes_in_case(query, case, plan, index, match):
    """The nodes of the case for the places of rows of a pattern in tables of parts."""
    values = values_in_pattern(query, query.clauses[index], case.database, match)
    integers = {values[number]: number for number in values}
    places = case.places
    return [places[_place_before(place, integers)] for place in plan.own_places()]


def _is_like(layout, own, nodes):
    """Whether two of these places are one node in a layout exactly if their nodes in the case are one."""
    told = [layout[place] for place in own]
    return [told.index(node) for node in told] == [nodes.index(node) for node in nodes]


def _wrong_case(query, plan, nodes):
    """A counterexample made from a plan and the nodes of its own places, or None."""
    own = plan.own_places()
    for case in plan.planned_cases(lambda layout: plan.is_apart() or _is_like(layout, own, nodes)):
        if not case.is_right(query):
            return case
    return None


def small_case_of(query, case):
    """A small case that is a counterexample and has the pattern of an open match in a counterexample."""
    _check_counterexample(query, case)
    plans = {pattern_key(plan.pattern()): plan for plan in plans_of(case.placement, query)}
    seen = {}
    for index, match in _open_matches_of(query, case):
        key = pattern_key(pattern_in(query, index, case.database, match))
        nodes = _nodes_in_case(query, case, plans[key], index, match)
        told = (key, tuple([nodes.index(node) for node in nodes]))
        # Matches with equal patterns and nodes lead to the same small cases.
        found = None if told in seen else _wrong_case(query, plans[key], nodes)
        seen[told] = True
        if found is not None:
            return found
    return None
