"""Verdicts: whether queries are right for placements, with certificates and counterexamples."""

from dealtrows.ask.queries import Query, check_query
from dealtrows.base.answers import Answer, checked_answer
from dealtrows.deal.cases import Case, check_case, is_counterexample
from dealtrows.decide.scenes import answered_choices, wrong_case
from dealtrows.decide.smallcases import case_key, ground_of
from dealtrows.errors import InvalidOperation

_KINDS = ("changed", "invented", "lost")


def _counterexample_in(ground):
    """A counterexample among the small cases, or None."""
    for entry in ground.entries:
        # Where all parts of a clause share a place, no head of its patterns is lost: so each other one decides.
        if not (ground.is_apart and entry[0].shared):
            plan = ground.plan_of(entry)
            case = wrong_case(plan, plan.laid_out())
            if case is not None:
                return case
    return None


def _decision_in(ground):
    """All small cases with their answers behind the word right, or the first wrong one behind the word wrong."""
    seen = {}
    for entry in ground.entries:
        for frame, nodes, told, numbers in answered_choices(ground.plan_of(entry)):
            if numbers[0] != numbers[1]:
                return ("wrong", frame.case_with(nodes, told))
            key = frame.key_with(nodes, told)
            if key not in seen:
                seen[key] = (frame.case_with(nodes, told), _answer_with(ground.asked.form, numbers[0]))
    return ("right", tuple([seen[key] for key in seen]))


def _answer_with(form, numbers):
    """The answer with some numbers, without those that are 0."""
    return checked_answer(form, {head: numbers[head] for head in numbers if numbers[head] != 0})


def certificate_of(placement, query):
    """All small cases with their answers, or None if the query is wrong."""
    word, found = _decision_in(ground_of(placement, query))
    return found if word == "right" else None


def counterexample_of(placement, query):
    """A counterexample, or None if the query is right."""
    return _counterexample_in(ground_of(placement, query))


def decision(placement, query):
    """A certificate behind the word right, or a counterexample behind the word wrong."""
    return _decision_in(ground_of(placement, query))


def _is_answered_case(placement, value):
    """Whether the value is a pair of a case of a placement and an answer."""
    if not isinstance(value, tuple) or len(value) != 2 or not isinstance(value[1], Answer):
        return False
    return isinstance(value[0], Case) and value[0].placement == placement


def _answers_in(ground):
    """A dict from the keys of the small cases to their numbers, or None if some of these are wrong."""
    found = {}
    for entry in ground.entries:
        for frame, nodes, told, numbers in answered_choices(ground.plan_of(entry)):
            if numbers[0] != numbers[1]:
                return None
            found[frame.key_with(nodes, told)] = numbers[0]
    return found


def _is_certificate_in(ground, value):
    """Whether the value is a certificate."""
    if not isinstance(value, tuple) or not all([_is_answered_case(ground.ruled, pair) for pair in value]):
        return False
    wanted = _answers_in(ground)
    if wanted is None or len(value) != len(wanted):
        return False
    told = {ground.key_of(case): answer for case, answer in value}
    if len(told) != len(wanted) or not all([key in wanted for key in told]):
        return False
    return all([told[key] == _answer_with(ground.asked.form, wanted[key]) for key in told])


def is_certificate(placement, query, value):
    """Whether the value is a certificate."""
    return _is_certificate_in(ground_of(placement, query), value)


def is_decision(placement, query, value):
    """Whether the value is a decision."""
    ground = ground_of(placement, query)
    if not isinstance(value, tuple) or len(value) != 2:
        return False
    if value[0] == "right":
        return _is_certificate_in(ground, value[1])
    return value[0] == "wrong" and is_counterexample(placement, query, value[1])


def is_right_for(placement, query):
    """Whether the query is right for the placement."""
    return counterexample_of(placement, query) is None


def _index_tuples(many):
    """The ascending tuple of the ascending tuples of one or more indices."""
    found = [()]
    for index in range(many):
        found = [*found, *[(*told, index) for told in found]]
    return tuple(sorted(found)[1:])


def _ground_with(ground, indices):
    """The ground of the query of the clauses with some indices, which has no more places and cases than all of them."""
    query = ground.asked
    if len(indices) == len(query):
        return ground
    clauses = tuple([query.clauses[index] for index in indices])
    return ground_of(ground.ruled, Query.of(query.schema, query.form, clauses))


def right_parts(placement, query):
    """The indices of clauses that together make a right query, all such tuples."""
    ground = ground_of(placement, query)
    return tuple([indices for indices in _index_tuples(len(query))
                  if _counterexample_in(_ground_with(ground, indices)) is None])


def _kind_of(mine, whole):
    """The word for a combined and a global number that differ."""
    if mine == 0:
        return "lost"
    return "invented" if whole == 0 else "changed"


def faults(case, query):
    """A dict from the heads that are lost, invented or changed to these words."""
    check_case(case)
    check_query(query)
    if case.placement.schema != query.schema:
        raise InvalidOperation("the schemas differ")
    found = case.difference(query)
    return {head: _kind_of(found[head][0], found[head][1]) for head in found}


def _kinds_in(whole, mine):
    """The list of the words for the heads with different numbers."""
    if whole == mine:
        return []
    told = [(mine.get(head, 0), whole.get(head, 0)) for head in [*whole, *mine]]
    return [_kind_of(low, high) for low, high in told if low != high]


class Verdict:
    """What the small cases of a placement and a query tell. It never changes."""

    def __init__(self, placement, query):
        ground = ground_of(placement, query)
        found = {}
        for entry in ground.entries:
            for frame, nodes, told, numbers in answered_choices(ground.plan_of(entry)):
                key = frame.key_with(nodes, told)
                if key not in found:
                    found[key] = (frame.case_with(nodes, told), numbers[0], _kinds_in(numbers[0], numbers[1]))
        cases = [found[key] for key in found]
        wrong = [case for case, _, kinds in cases if kinds]
        self._placement = placement
        self._query = query
        self._known = {case_key(case): True for case, _, _ in cases}
        self._many = len(wrong)
        answered = [(case, _answer_with(query.form, whole)) for case, whole, _ in cases]
        self._certificate = None if wrong else tuple(answered)
        self._counterexample = min(wrong, key=lambda case: len(case)) if wrong else None
        self._kinds = {kind: len([kinds for _, _, kinds in cases if kind in kinds]) for kind in _KINDS}

    @property
    def placement(self):
        """The placement."""
        return self._placement

    @property
    def query(self):
        """The query."""
        return self._query

    @property
    def certificate(self):
        """A certificate, or None."""
        return self._certificate

    @property
    def counterexample(self):
        """A small case with the fewest rows of those that are counterexamples, or None."""
        return self._counterexample

    @property
    def kinds(self):
        """A dict from the words for faults to the number of small cases that have such a fault."""
        return dict(self._kinds)

    def is_right(self):
        """Whether the query is right."""
        return self._certificate is not None

    def __bool__(self):
        return self._certificate is not None

    def __len__(self):
        return len(self._known)

    def __contains__(self, x):
        return isinstance(x, Case) and x.placement == self._placement and case_key(x) in self._known

    def __eq__(self, other):
        return isinstance(other, Verdict) and self._placement == other._placement and self._query == other._query

    def __str__(self):
        return f"verdict of {len(self._known)} small cases, {self._many} of them counterexamples"
