"""Small cases: finitely many cases that decide whether a query is right for a placement."""

from dealtrows.ask.matches import MAX_MATCHES, check_rows
from dealtrows.ask.queries import check_query
from dealtrows.base.names import is_ascending
from dealtrows.deal.cases import Case
from dealtrows.deal.placements import check_placement, is_place
from dealtrows.decide.grounds import Ground
from dealtrows.decide.layouts import all_layouts
from dealtrows.decide.surveys import Survey
from dealtrows.decide.ties import ties_in
from dealtrows.errors import InvalidOperation, TooMany

MAX_PLACES = 6
MAX_CASES = 2000


def _check_fit(placement, query):
    """Refuse a query of another schema, or with absences of a table with two rules."""
    if placement.schema != query.schema:
        raise InvalidOperation("the schemas differ")
    tables = [table for clause in query.clauses for table, _ in clause.absences]
    if any([len(placement[table]) > 1 for table in tables]):
        raise InvalidOperation("the table of an absence has two rules")


def check_decidable(placement, query):
    """Refuse what is no placement and no query that have small cases."""
    check_placement(placement)
    check_query(query)
    _check_fit(placement, query)


def ties(placement, query, rows):
    """The ascending tuple of all ties in some rows."""
    check_decidable(placement, query)
    check_rows(query, rows)
    return ties_in(query, rows, MAX_MATCHES)


def layouts(places):
    """The layouts of some places, dicts from places to nodes, each once."""
    if not isinstance(places, tuple) or not all([is_place(place) for place in places]) or not is_ascending(places):
        raise InvalidOperation("these are no ascending tuple of places")
    if len(places) > MAX_PLACES:
        raise TooMany(MAX_PLACES)
    for layout in all_layouts(places):
        yield dict(zip(places, layout))


def _entries_of(survey):
    """The entries of all patterns of a survey, or the limit that is exceeded if they have too many places or cases."""
    if any([deal.many_places > MAX_PLACES for deal in survey.deals]):
        return ([], MAX_PLACES)
    # Where no pattern can have too many places, there is no reason to look on when there are too many cases.
    is_narrow = all([deal.most_places <= MAX_PLACES for deal in survey.deals])
    found = []
    total = 0
    for deal in survey.deals:
        for values, used in deal.draft.valuations():
            tally = None if survey.is_apart else deal.tally(values)
            if tally is not None and tally[0] > MAX_PLACES:
                return ([], MAX_PLACES)
            total += 1 if tally is None else survey.many_choices(tally)
            if is_narrow and total > MAX_CASES:
                return ([], MAX_CASES)
            found.append((deal, values, used))
    return (found, None) if total <= MAX_CASES else ([], MAX_CASES)


def _new_survey(placement, query):
    """The survey of a placement and a query, with its entries or a limit."""
    made = Survey(placement, query)
    made.entries, made.limit = _entries_of(made)
    return made


def ground_of(placement, query):
    """The ground of a placement and a query, refused if it has too many places or cases."""
    check_decidable(placement, query)
    if query.kept_survey is None or query.kept_survey.ruled != placement:
        query.kept_survey = _new_survey(placement, query)
    survey = query.kept_survey
    if survey.limit is not None:
        raise TooMany(survey.limit)
    return Ground(query, survey)


def case_key(case):
    """What tells two cases of one placement apart, as the key of a dict."""
    places = case.places
    return (case.nodes, case.database.pairs(), tuple([(place, places[place]) for place in places]))


def _keys_of(plan):
    """The list of the keys of all choices of a plan."""
    found = []
    for layout, nodes in plan.laid_out():
        for chosen in plan.sets(nodes):
            frame = plan.frame(chosen)
            found.append(frame.key_with(nodes, frame.nodes_with(layout, chosen)))
    return found


def small_cases(placement, query):
    """The small cases, each once."""
    ground = ground_of(placement, query)
    seen = {}
    for entry in ground.entries:
        plan = ground.plan_of(entry)
        for layout, nodes in plan.laid_out():
            for chosen in plan.sets(nodes):
                frame = plan.frame(chosen)
                told = frame.nodes_with(layout, chosen)
                key = frame.key_with(nodes, told)
                # Patterns of several clauses can make the same case, and layouts of given places without a row.
                if key not in seen:
                    seen[key] = True
                    yield frame.case_with(nodes, told)


def _is_case_of(ground, entry, case):
    """Whether a case of the placement is a small case of a pattern."""
    deal, values, _ = entry
    pairs = case.database.pairs()
    if not all([pair in pairs for pair in deal.draft.pairs_with(values)]):
        return False
    keys = _keys_of(ground.plan_of(entry))
    return ground.key_of(case) in keys


def is_small_case(placement, query, value):
    """Whether the value is a small case."""
    ground = ground_of(placement, query)
    if not isinstance(value, Case) or value.placement != placement:
        return False
    return any([_is_case_of(ground, entry, value) for entry in ground.entries])
