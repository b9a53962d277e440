"""Choices of placements: the cheapest one, and rules to be added, for which queries are right."""

from dealtrows.base.names import is_ascending, is_integer, is_number
from dealtrows.base.schemas import check_schema
from dealtrows.deal.cases import check_query_of, is_counterexample
from dealtrows.deal.placements import ALL, Placement, are_rules_of, arities_of, check_placement, is_rule_of
from dealtrows.decide.verdicts import counterexample_of, is_right_for
from dealtrows.errors import InvalidOperation, InvalidPlacement, InvalidQuery, InvalidRule, TooMany

MAX_SELECTIONS = 64
MAX_OFFERS = 6


def _is_option(schema, table, value):
    """Whether the value is a pair of a cost and rules of a table."""
    if not isinstance(value, tuple) or len(value) != 2:
        return False
    return is_integer(value[0]) and value[0] >= 0 and are_rules_of(schema, table, value[1])


def _are_options(schema, table, value):
    """Whether the value is a tuple of one or more different options of a table."""
    if not isinstance(value, tuple) or not value:
        return False
    return all([_is_option(schema, table, option) for option in value]) and len(set(value)) == len(value)


def _are_choices(schema, value):
    """Whether the value is a dict from each table to its options."""
    if not isinstance(value, dict) or len(value) != len(schema):
        return False
    return all([table in schema and _are_options(schema, table, value[table]) for table in value])


def _is_clash(one, other):
    """Whether two pairs of a spread and an arity give one spread two arities."""
    return one[0] == other[0] and one[1] != other[1]


def _make_placements(choices):
    """Whether no selection has a spread with two arities, in one option or in options of two tables."""
    found = {}
    for table in choices:
        for _, rules in choices[table]:
            told = arities_of({table: rules})
            if any([_is_clash(one, other) for one in told for other in told]):
                return False
            found.update({(table, pair): True for pair in told})
    return not any([_is_clash(pair, other) for table, pair in found for more, other in found if table != more])


def _many_selections(choices):
    """How many selections there are."""
    many = 1
    for table in choices:
        many = many * len(choices[table])
    return many


def _checked_selections(schema, choices):
    """The list of the selections, in their order."""
    check_schema(schema)
    if not _are_choices(schema, choices) or not _make_placements(choices):
        raise InvalidRule("these are no choices for the schema whose selections are placements")
    if _many_selections(choices) > MAX_SELECTIONS:
        raise TooMany(MAX_SELECTIONS)
    found = [(0, (), {})]
    for table in sorted(choices):
        found = [(cost + option[0], (*indices, at), {**rules, table: option[1]})
                 for cost, indices, rules in found for at, option in enumerate(choices[table])]
    return [(cost, Placement.of(schema, rules)) for cost, _, rules in sorted(found, key=lambda told: told[:2])]


def selections(schema, choices):
    """The selections, in their order."""
    for selection in _checked_selections(schema, choices):
        yield selection


def _checked_all(schema, choices, queries):
    """The list of the selections, when the queries are checked, too."""
    found = _checked_selections(schema, choices)
    for query in queries:
        check_query_of(schema, query)
    return found


def _first_wrong(placement, queries):
    """The pair of the index of the first wrong query and a counterexample, or None."""
    for index, query in enumerate(queries):
        case = counterexample_of(placement, query)
        if case is not None:
            return (index, case)
    return None


def cheapest(schema, choices, *queries):
    """The first selection for whose placement all queries are right, or None."""
    for selection in _checked_all(schema, choices, queries):
        if _first_wrong(selection[1], queries) is None:
            return selection
    return None


def choice_certificate(schema, choices, *queries):
    """The first selection for whose placement all queries are right, and why the earlier ones are refused."""
    refused = []
    for selection in _checked_all(schema, choices, queries):
        wrong = _first_wrong(selection[1], queries)
        if wrong is None:
            return ("cheapest", selection, tuple(refused))
        refused.append(wrong)
    return ("none", tuple(refused))


def _is_refused(placement, queries, value):
    """Whether the value is a pair of the index of a query and a counterexample of it."""
    if not isinstance(value, tuple) or len(value) != 2:
        return False
    if not is_number(value[0]) or not 0 <= value[0] < len(queries):
        return False
    return is_counterexample(placement, queries[value[0]], value[1])


def _are_refused(found, queries, value):
    """Whether the value has a pair of an index and a counterexample for each of some selections."""
    if not isinstance(value, tuple) or len(value) != len(found):
        return False
    return all([_is_refused(selection[1], queries, pair) for selection, pair in zip(found, value)])


def _is_selection(selection, value):
    """Whether the value equals a selection."""
    if not isinstance(value, tuple) or len(value) != 2 or not is_number(value[0]):
        return False
    return value[0] == selection[0] and isinstance(value[1], Placement) and value[1] == selection[1]


def _are_right(placement, queries):
    """Whether all queries are right for a placement, as far as that can be decided."""
    try:
        return _first_wrong(placement, queries) is None
    except (InvalidOperation, TooMany):
        return False


def is_choice_certificate(schema, choices, queries, value):
    """Whether the value tells the cheapest selection, and why the earlier ones are refused."""
    check_schema(schema)
    found = _checked_selections(schema, choices)
    if not isinstance(queries, tuple):
        raise InvalidQuery("these are no tuple of queries")
    for query in queries:
        check_query_of(schema, query)
    if not isinstance(value, tuple) or not 2 <= len(value) <= 3:
        return False
    if len(value) == 2:
        return value[0] == "none" and _are_refused(found, queries, value[1])
    if value[0] != "cheapest" or not isinstance(value[2], tuple) or len(value[2]) >= len(found):
        return False
    many = len(value[2])
    if not _is_selection(found[many], value[1]) or not _are_refused(found[:many], queries, value[2]):
        return False
    return _are_right(found[many][1], queries)


def _is_offer(schema, value):
    """Whether the value is a pair of a table and a rule of it."""
    if not isinstance(value, tuple) or len(value) != 2:
        return False
    return value[0] in schema and is_rule_of(schema, value[0], value[1])


def _are_offers(schema, value):
    """Whether the value is an ascending tuple of offers."""
    if not isinstance(value, tuple) or not all([_is_offer(schema, offer) for offer in value]):
        return False
    return is_ascending(value)


def _taking(placement, offers):
    """The placement that takes some offers, or None if they cannot be taken together."""
    rules = placement.rules
    found = {}
    for table in rules:
        told = [*rules[table], *[rule for other, rule in offers if other == table]]
        found[table] = (ALL,) if ALL in told else tuple(sorted(set(told)))
    try:
        return Placement.of(placement.schema, found)
    except (InvalidRule, InvalidPlacement):
        return None


def _sets_of(offers):
    """The ascending tuples of some offers, those of fewer offers first."""
    found = [()]
    for offer in offers:
        found = [*found, *[(*told, offer) for told in found]]
    return sorted(found, key=lambda told: (len(told), told))


def _has_within(told, least):
    """Whether one of some sets of offers has no offer that the told ones lack."""
    return any([all([offer in told for offer in offers]) for offers in least])


def further_rules(placement, query, offers):
    """The ascending tuple of all least sets of offers with which the query is right for the placement."""
    check_placement(placement)
    check_query_of(placement.schema, query)
    if not _are_offers(placement.schema, offers):
        raise InvalidRule("these are no ascending tuple of offers")
    if query.form != "distinct" or any([clause.absences for clause in query.clauses]):
        raise InvalidOperation("the query is not distinct, or has absences")
    if len(offers) > MAX_OFFERS:
        raise TooMany(MAX_OFFERS)
    found = []
    for told in _sets_of(offers):
        if not _has_within(told, found):
            deal = _taking(placement, told)
            if deal is not None and is_right_for(deal, query):
                found.append(told)
    return tuple(sorted(found))
