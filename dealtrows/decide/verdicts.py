"""Verdicts: whether queries are right for placements, with certificates and counterexamples."""

from dealtrows.ask.queries import Query, check_query
from dealtrows.base.answers import Answer
from dealtrows.deal.cases import Case, check_case, is_counterexample
from dealtrows.decide.smallcases import case_key, plans_of, small_cases
from dealtrows.errors import InvalidOperation

_KINDS = ("changed", "invented", "lost")


def certificate_of(placement, query):
    """All small cases with their answers, or None if the query is wrong."""
    found = []
    for case in small_cases(placement, query):
        if not case.is_right(query):
            return None
        found.append((case, case.whole(query)))
    return tuple(found)


def counterexample_of(placement, query):
    """A counterexample, or None if the query is right."""
    for case in small_cases(placement, query):
        if not case.is_right(query):
            return case
    return None


def decision(placement, query):
    """A certificate behind the word right, or a counterexample behind the word wrong."""
    found = certificate_of(placement, query)
    if found is not None:
        return ("right", found)
    return ("wrong", counterexample_of(placement, query))


def _is_answered_case(placement, value):
    """Whether the value is a pair of a case of a placement and an answer."""
    if not isinstance(value, tuple) or len(value) != 2 or not isinstance(value[1], Answer):
        return False
    return isinstance(value[0], Case) and value[0].placement == placement


def is_certificate(placement, query, value):
    """Whether the value is a certificate."""
    wanted = {case_key(case): True for case in small_cases(placement, query)}
    if not isinstance(value, tuple) or not all([_is_answered_case(placement, pair) for pair in value]):
        return False
    # A case that is none of the small ones can have too many matches to be asked.
    if len(value) != len(wanted) or {case_key(case): True for case, _ in value} != wanted:
        return False
    return all([case.is_right(query) and case.whole(query) == answer for case, answer in value])


def is_decision(placement, query, value):
    """Whether the value is a decision."""
    plans_of(placement, query)
    if not isinstance(value, tuple) or len(value) != 2:
        return False
    if value[0] == "right":
        return is_certificate(placement, query, value[1])
    return value[0] == "wrong" and is_counterexample(placement, query, value[1])


def is_right_for(placement, query):
    """Whether the query is right for the placement."""
    return counterexample_of(placement, query) is None


def _index_tuples(many):
    """The ascending tuple of the ascending tuples of one or more indices."""
    found = [()]
    for index in range(many):
        found = [*found, *[(*told, index) for told in found]]
    return tuple(sorted(found)[1:])


def right_parts(placement, query):
    """The indices of clauses that together make a right query, all such tuples."""
    plans_of(placement, query)
    found = []
    for indices in _index_tuples(len(query)):
        clauses = tuple([query.clauses[index] for index in indices])
        if is_right_for(placement, Query.of(query.schema, query.form, clauses)):
            found.append(indices)
    return tuple(found)


def _kind_of(numbers):
    """The word for a combined and a global number that differ."""
    if numbers[0] == 0:
        return "lost"
    return "invented" if numbers[1] == 0 else "changed"


def _faults_of(case, query):
    """The words for the heads with different numbers."""
    found = case.difference(query)
    return {head: _kind_of(found[head]) for head in found}


def faults(case, query):
    """A dict from the heads that are lost, invented or changed to these words."""
    check_case(case)
    check_query(query)
    if case.placement.schema != query.schema:
        raise InvalidOperation("the schemas differ")
    return _faults_of(case, query)


class Verdict:
    """What the small cases of a placement and a query tell. It never changes."""

    def __init__(self, placement, query):
        found = list(small_cases(placement, query))
        told = [_faults_of(case, query) for case in found]
        wrong = [case for case, words in zip(found, told) if words]
        self._placement = placement
        self._query = query
        self._known = {case_key(case): True for case in found}
        self._many = len(wrong)
        self._certificate = None if wrong else tuple([(case, case.whole(query)) for case in found])
        self._counterexample = min(wrong, key=lambda case: len(case)) if wrong else None
        self._kinds = {kind: len([words for words in told if kind in list(words.values())]) for kind in _KINDS}

    @property
    def placement(self):
        """The placement."""
        return self._placement

    @property
    def query(self):
        """The query."""
        return self._query

    @property
    def certificate(self):
        """A certificate, or None."""
        return self._certificate

    @property
    def counterexample(self):
        """A small case with the fewest rows of those that are counterexamples, or None."""
        return self._counterexample

    @property
    def kinds(self):
        """A dict from the words for faults to the number of small cases that have such a fault."""
        return dict(self._kinds)

    def is_right(self):
        """Whether the query is right."""
        return self._certificate is not None

    def __bool__(self):
        return self._certificate is not None

    def __len__(self):
        return len(self._known)

    def __contains__(self, x):
        return isinstance(x, Case) and x.placement == self._placement and case_key(x) in self._known

    def __eq__(self, other):
        return isinstance(other, Verdict) and self._placement == other._placement and self._query == other._query

    def __str__(self):
        return f"verdict of {len(self._known)} small cases, {self._many} of them counterexamples"
