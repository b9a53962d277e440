"""Co-locations and routes: where the heads of distinct queries without absences are told."""

from dealtrows.ask.joins import open_list, pairs_of, values_of
from dealtrows.ask.matches import MAX_MATCHES, is_match
from dealtrows.ask.queries import check_query
from dealtrows.base.names import are_integers, is_ascending, is_name, is_number, is_plain
from dealtrows.deal.cases import Case, check_case
from dealtrows.deal.placements import ALL, FIRST, check_placement, shared_places
from dealtrows.decide.patterns import Pattern, drafts_of, is_pattern, is_pattern_of, pattern_key, patterns
from dealtrows.decide.smallcases import ground_of
from dealtrows.errors import InvalidOperation, TooMany

MAX_ROUTE_PLACES = 10


def _check_both(placement, query):
    check_placement(placement)
    check_query(query)


def _check_kind(placement, query):
    """Refuse a query of another schema, of another form or with absences."""
    if placement.schema != query.schema:
        raise InvalidOperation("the schemas differ")
    if query.form != "distinct" or any([clause.absences for clause in query.clauses]):
        raise InvalidOperation("the query is not distinct, or has absences")


def _check_pattern(placement, query, pattern):
    """Refuse what is no pattern of a query that can have co-locations."""
    _check_both(placement, query)
    if not isinstance(pattern, Pattern):
        raise InvalidOperation("this is no pattern")
    _check_kind(placement, query)
    if not is_pattern(query, pattern):
        raise InvalidOperation("this is no pattern of the query")


def _head_of(query, pattern):
    """The head that the own match of a pattern has."""
    return values_of(query.clauses[pattern.clause].head, pattern.match)


def _places_of(clause, match, by_pair):
    """The places of co-locations with this match of a clause, by the places of all pairs of the pattern."""
    return shared_places([by_pair[pair] for pair in pairs_of(clause, match)])


def _all_of(placement, query, pattern):
    """The list of all co-locations of a pattern."""
    head = _head_of(query, pattern)
    by_pair = placement.places_by_pair(pattern.database)
    found = []
    for index, clause in enumerate(query.clauses):
        for match in open_list(clause, pattern.database.rows, MAX_MATCHES):
            if values_of(clause.head, match) == head:
                found.extend([(index, match, place) for place in _places_of(clause, match, by_pair)])
    return found


def _is_one(placement, query, pattern, value):
    """Whether the value is a co-location of a pattern of the query."""
    if not isinstance(value, tuple) or len(value) != 3:
        return False
    index, match, place = value
    if not is_number(index) or not 0 <= index < len(query) or not is_plain(place):
        return False
    if not is_match(query, index, pattern.database.rows, match):
        return False
    if values_of(query.clauses[index].head, match) != _head_of(query, pattern):
        return False
    return place in _places_of(query.clauses[index], match, placement.places_by_pair(pattern.database))


def co_location(placement, query, pattern):
    """A co-location of a pattern of the query, or None."""
    _check_pattern(placement, query, pattern)
    found = _all_of(placement, query, pattern)
    return found[0] if found else None


def is_co_location(placement, query, pattern, value):
    """Whether the value is a co-location of a pattern of the query."""
    _check_pattern(placement, query, pattern)
    return _is_one(placement, query, pattern, value)


def co_locations(placement, query):
    """A tuple of the pairs of each pattern and a co-location, or None if some pattern has none."""
    _check_both(placement, query)
    _check_kind(placement, query)
    found = []
    for pattern in patterns(query):
        told = _all_of(placement, query, pattern)
        if not told:
            return None
        found.append((pattern, told[0]))
    return tuple(found)


def is_co_location_table(placement, query, value):
    """Whether the value has each pattern once, in a pair with a co-location of it."""
    _check_both(placement, query)
    _check_kind(placement, query)
    drafts = drafts_of(query)
    wanted = {pattern_key(pattern): True for pattern in patterns(query)}
    if not isinstance(value, tuple) or len(value) != len(wanted):
        return False
    if not all([isinstance(pair, tuple) and len(pair) == 2 for pair in value]):
        return False
    if not all([is_pattern_of(query, drafts, pattern) for pattern, _ in value]):
        return False
    if len(set([pattern_key(pattern) for pattern, _ in value])) != len(wanted):
        return False
    return all([_is_one(placement, query, pattern, told) for pattern, told in value])


def _is_spread_place(placement, value):
    """Whether the value is a place by a spread of the placement, of its arity."""
    if not isinstance(value, tuple) or len(value) != 3 or value[0] != "by" or not is_name(value[1]):
        return False
    return are_integers(value[2]) and placement.spreads.get(value[1], 0) == len(value[2]) > 0


def _are_spread_places(placement, value):
    """Whether the value is an ascending tuple of places by spreads of the placement."""
    if not isinstance(value, tuple):
        return False
    return all([_is_spread_place(placement, place) for place in value]) and is_ascending(value)


def _are_named(query, places):
    """Whether all integers of these places by spreads are named."""
    return all([number in query.integers for place in places for number in place[2]])


def _is_form_of_route(placement, query, value):
    return _are_spread_places(placement, value) and _are_named(query, value)


def _places_by_pattern(placement, query):
    """For each pattern the list of the places of its co-locations."""
    return [[place for _, _, place in _all_of(placement, query, pattern)] for pattern in patterns(query)]


def _is_asked_always(places):
    """Whether some place is one that node 0 has in each case."""
    return ALL in places or FIRST in places


def _is_told(places, route):
    """Whether some place of co-locations is asked by a route."""
    return _is_asked_always(places) or any([place in route for place in places])


def _subsets(values):
    """The list of the ascending tuples of some of the ascending values, those of fewer values first."""
    found = [()]
    for value in values:
        found = [*found, *[(*told, value) for told in found]]
    return sorted(found, key=lambda told: (len(told), told))


def routes(placement, query):
    """The ascending tuple of all least routes."""
    _check_both(placement, query)
    _check_kind(placement, query)
    told = [places for places in _places_by_pattern(placement, query) if not _is_asked_always(places)]
    # Patterns often share their places, so each set of them is taken once.
    sets = {tuple(sorted(set([place for place in places if place[0] == "by" and _are_named(query, (place,))]))): True
            for places in told}
    named = sorted(set([place for places in sets for place in places]))
    if len(named) > MAX_ROUTE_PLACES:
        raise TooMany(MAX_ROUTE_PLACES)
    found = []
    for route in _subsets(named):
        # Routes with fewer places come first, so that those with more than they need are seen.
        if not any([all([place in route for place in least]) for least in found]):
            if all([any([place in route for place in places]) for places in sets]):
                found.append(route)
    return tuple(sorted(found))


def is_route(placement, query, value):
    """Whether the value is a route that is enough."""
    _check_both(placement, query)
    _check_kind(placement, query)
    found = _places_by_pattern(placement, query)
    return _is_form_of_route(placement, query, value) and all([_is_told(places, value) for places in found])


def _stranded_case(placement, plan):
    """The case of a pattern that gives a node of its own, which is not node 0, to each place but ("first",)."""
    order = [place for place in plan.all_places if place != FIRST]
    told = {place: node for node, place in enumerate(order, start=1)}
    database = plan.pattern().database
    places = [place for place in placement.places_in(database) if place != ALL]
    return Case.of_places(placement, database, len(order) + 1, {place: told.get(place, 0) for place in places})


def _is_told_in(query, plan, route):
    """Whether some co-location of the pattern of a plan has a place that is asked by a route."""
    match = plan.deal.draft.match_with(plan.valued)
    head = values_of(query.clauses[plan.deal.draft.of_clause].head, match)
    for clause, found in enumerate(plan.known_matches()):
        chain = plan.ground.chains()[clause][0]
        for known in [known for known in found if chain.head_of(known) == head]:
            rows = plan.pairs_of_parts(clause, known)
            if _is_told(shared_places([plan.by_pair[row] for row in rows]), route):
                return True
    return False


def stranded(placement, query, route):
    """A case in which the nodes asked by a route do not tell all heads, or None if the route is enough."""
    _check_both(placement, query)
    if not _is_form_of_route(placement, query, route):
        raise InvalidOperation("this is no route")
    _check_kind(placement, query)
    ground = ground_of(placement, query)
    for entry in ground.entries:
        # Where the parts of a clause share a place that is always asked, all heads of its patterns are told.
        if not _is_asked_always(entry[0].shared):
            plan = ground.plan_of(entry)
            if not _is_told_in(query, plan, route):
                return _stranded_case(placement, plan)
    return None


def asked(case, route):
    """The ascending tuple of the nodes that are asked by a route."""
    check_case(case)
    if not _are_spread_places(case.placement, route):
        raise InvalidOperation("these are no ascending tuple of places by spreads")
    places = case.places
    return tuple(sorted(set([0, *[places[place] for place in route if place in places]])))
