"""Tight counterexamples: those in which nothing can be left out."""

from dealtrows.ask.joins import open_list, values_of
from dealtrows.ask.matches import MAX_MATCHES
from dealtrows.ask.queries import check_query
from dealtrows.deal.cases import Case, KnownPlaces, check_case, is_counterexample
from dealtrows.deal.placements import ALL, FIRST
from dealtrows.decide.plans import Plan
from dealtrows.decide.scenes import wrong_case
from dealtrows.decide.shrink import absent_pairs, smaller_pairs
from dealtrows.decide.smallcases import ground_of
from dealtrows.errors import InvalidOperation, TooMany

MAX_BLOCKING = 8


def subcase(case, *pairs):
    """The subcase with the closure of some pairs (table, row)."""
    check_case(case)
    database = case.database.closure_of(*pairs)
    places = case.places
    told = {place: places[place] for place in case.placement.places_in(database) if place != ALL}
    return Case(case.placement, database, nodes=case.nodes, spreads=KnownPlaces(told))


def is_subcase(case, value):
    """Whether the value is a subcase of a case."""
    check_case(case)
    if not isinstance(value, Case) or value.placement != case.placement or value.nodes != case.nodes:
        return False
    if not value.database.is_within(case.database):
        return False
    mine, others = case.places, value.places
    return all([mine[place] == others[place] for place in others])


def is_tight(query, value):
    """Whether the value is a tight counterexample with at most eight rows in tables of absences."""
    check_query(query)
    if not isinstance(value, Case) or value.placement.schema != query.schema:
        return False
    if not is_counterexample(value.placement, query, value):
        return False
    return len(absent_pairs(query, value.database)) <= MAX_BLOCKING and smaller_pairs(query, value) is None


def _check_counterexample(query, case):
    """Refuse what is no counterexample of a query."""
    check_query(query)
    check_case(case)
    if case.placement.schema != query.schema:
        raise InvalidOperation("the schemas differ")
    if case.is_right(query):
        raise InvalidOperation("the case is no counterexample")


def tightened(query, case):
    """A tight subcase of a counterexample."""
    _check_counterexample(query, case)
    if len(absent_pairs(query, case.database)) > MAX_BLOCKING:
        raise TooMany(MAX_BLOCKING)
    # The first one that is found has the fewest rows of a closure, and with them the fewest that block.
    pairs = smaller_pairs(query, case)
    return case if pairs is None else subcase(case, *pairs)


def _open_matches_of(query, case):
    """The pairs (index, open match) of a case, those whose heads have wrong numbers first."""
    wrong = case.difference(query)
    told = [(index, match, values_of(clause.head, match) in wrong) for index, clause in enumerate(query.clauses)
            for match in open_list(clause, case.database.rows, MAX_MATCHES)]
    first = [(index, match) for index, match, is_wrong in told if is_wrong]
    return first + [(index, match) for index, match, is_wrong in told if not is_wrong]


def _place_before(place, integers):
    """The place of a row of a case, for one of a row of a pattern and the integers that its values stand for."""
    if place == FIRST:
        return place
    return (place[0], place[1], tuple([integers[value] for value in place[2]]))


def _is_like(layout, own, nodes):
    """Whether two of the own places are one node in a layout exactly if their nodes in the case are one."""
    told = [layout[at] for at in own]
    return [told.index(node) for node in told] == [nodes.index(node) for node in nodes]


def _wrong_case_like(plan, nodes):
    """A counterexample made from a plan and the nodes, in a case, of its own places, or None."""
    own = [plan.all_places.index(place) for place in plan.own_places]
    told = plan.laid_out()
    if not plan.ground.is_apart:
        told = [(layout, many) for layout, many in told if _is_like(layout, own, nodes)]
    return wrong_case(plan, told)


def small_case_of(query, case):
    """A small case that is a counterexample and has the pattern of an open match in a counterexample."""
    _check_counterexample(query, case)
    ground = ground_of(case.placement, query)
    deals = {deal.draft.of_clause: deal for deal in ground.deals}
    places = case.places
    seen = {}
    for index, match in _open_matches_of(query, case):
        values, used, integers = deals[index].draft.values_of_match(case.database, match)
        plan = Plan(ground, deals[index], values, used)
        nodes = [places[_place_before(place, integers)] for place in plan.own_places]
        told = (index, values, tuple([nodes.index(node) for node in nodes]))
        # Matches with equal patterns and nodes lead to the same small cases.
        found = None if told in seen else _wrong_case_like(plan, nodes)
        seen[told] = True
        if found is not None:
            return found
    return None
