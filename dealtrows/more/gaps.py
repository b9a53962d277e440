"""Gaps: by how much each clause of a count is wrong in a case."""

from dealtrows.ask.queries import check_query
from dealtrows.base.names import are_integers
from dealtrows.deal.cases import Case, check_case
from dealtrows.deal.placements import check_placement
from dealtrows.decide.scenes import gapped_choices
from dealtrows.decide.smallcases import case_key, ground_of
from dealtrows.errors import InvalidOperation, TooMany
from dealtrows.more.lattices import balanced_basis, basis_from, basis_with

_COLUMNS = 3


def _check_form(query):
    if query.form != "count":
        raise InvalidOperation("the query does not count")


def _counted_ground(placement, query):
    """The ground of a placement and a count."""
    check_placement(placement)
    check_query(query)
    _check_form(query)
    return ground_of(placement, query)


def _check_weights(placement, query, weights):
    """Refuse what are no weights of a query, before its form is looked at."""
    check_placement(placement)
    check_query(query)
    if not are_integers(weights) or len(weights) != len(query):
        raise InvalidOperation("these are no integers, one for each clause")


def _clause_queries(query):
    """The queries of each clause alone."""
    return [query.only(index) for index in range(len(query))]


def _gap_of(told, head):
    """The gap of a head, by the differences of each clause."""
    numbers = [found.get(head, (0, 0)) for found in told]
    return tuple([mine - whole for mine, whole in numbers])


def _gaps_in(case, queries):
    """The gaps, other than zeros, of a case and the queries of each clause."""
    told = [case.difference(query) for query in queries]
    heads = sorted(set([head for found in told for head in found]))
    return {head: _gap_of(told, head) for head in heads}


def gaps(case, query):
    """A dict from the heads to their gaps, without those of zeros only."""
    check_case(case)
    check_query(query)
    if case.placement.schema != query.schema:
        raise InvalidOperation("the schemas differ")
    _check_form(query)
    return _gaps_in(case, _clause_queries(query))


def _are_rows(value):
    """Whether the value is a tuple of tuples of one to three integers, all of one length."""
    if not isinstance(value, tuple) or not all([are_integers(row) and 1 <= len(row) <= _COLUMNS for row in value]):
        return False
    return len(set([len(row) for row in value])) <= 1


def basis_of(rows):
    """The basis of the sums of integer multiples of some rows."""
    if not _are_rows(rows):
        raise InvalidOperation("these are no tuple of rows of one to three integers, all of one length")
    return basis_from(rows)


def _gaps_by_head(told, many):
    """The gaps, other than zeros, of the heads, by the numbers of heads and of so many clauses."""
    heads = sorted(set([head for head, _ in told]))
    found = {head: tuple([told.get((head, clause), 0) for clause in range(many)]) for head in heads}
    return {head: found[head] for head in heads if any(found[head])}


def _small_gaps(ground):
    """For each small case its frame, its number of nodes, the nodes of its places, and its gaps."""
    many = len(ground.asked)
    return [(frame, nodes, told, _gaps_by_head(gaps_told, many)) for entry in ground.entries
            for frame, nodes, told, gaps_told in gapped_choices(ground.plan_of(entry))]


def _basis_in(ground):
    """The basis of the gap lattice."""
    rows = {gap: True for _, _, _, found in _small_gaps(ground) for gap in list(found.values())}
    return basis_from(list(rows))


def gap_basis(placement, query):
    """The basis of the gap lattice."""
    return _basis_in(_counted_ground(placement, query))


def corrections(placement, query):
    """The basis of the balanced weights."""
    return balanced_basis(gap_basis(placement, query), len(query))


def _error(weights, gap):
    """The sum of the weights times the numbers of a gap."""
    return sum([weight * number for weight, number in zip(weights, gap)])


def error_step(placement, query, weights):
    """The greatest integer that divides all errors of these weights, 0 if all of them are 0."""
    _check_weights(placement, query, weights)
    found = basis_from([(_error(weights, gap),) for gap in gap_basis(placement, query)])
    return found[0][0] if found else 0


def unbalanced(placement, query, weights):
    """A pair (case, head) with an error other than 0, or None."""
    _check_weights(placement, query, weights)
    for frame, nodes, told, found in _small_gaps(_counted_ground(placement, query)):
        for head in found:
            if _error(weights, found[head]) != 0:
                return (frame.case_with(nodes, told), head)
    return None


def gap_certificate(placement, query):
    """Pairs (case, head) whose gaps make the gap lattice."""
    basis = ()
    pairs = []
    for frame, nodes, told, found in _small_gaps(_counted_ground(placement, query)):
        for head in found:
            more = basis_with(basis, found[head])
            if more != basis:
                basis = more
                pairs.append((frame.case_with(nodes, told), head))
    return tuple(pairs)


def _is_gap_pair(placement, query, value):
    """Whether the value is a pair of a case of a placement and a head of the length of a query."""
    if not isinstance(value, tuple) or len(value) != 2 or not isinstance(value[0], Case):
        return False
    return value[0].placement == placement and are_integers(value[1]) and len(value[1]) == query.width


def _gaps_of_pairs(query, pairs):
    """The list of the gaps of pairs (case, head), or None if some case has too many matches."""
    queries = _clause_queries(query)
    try:
        return [_gap_of([case.difference(told) for told in queries], head) for case, head in pairs]
    except TooMany:
        return None


def is_gap_certificate(placement, query, value):
    """Whether the value is a tuple of different pairs (case, head) whose gaps make the gap lattice."""
    wanted = gap_basis(placement, query)
    if not isinstance(value, tuple) or not all([_is_gap_pair(placement, query, pair) for pair in value]):
        return False
    if len(set([(case_key(case), head) for case, head in value])) < len(value):
        return False
    found = _gaps_of_pairs(query, value)
    return found is not None and basis_from(found) == wanted
