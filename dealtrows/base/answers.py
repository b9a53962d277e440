"""Answers: a number for each head."""

from dealtrows.base.names import are_integers, is_form, is_number
from dealtrows.errors import InvalidAnswer, InvalidOperation

_HEAD_LENGTH = 3


def is_head(value):
    """Whether the value is a head: a tuple of at most three integers."""
    return are_integers(value) and len(value) <= _HEAD_LENGTH


def _are_of_one_length(heads):
    return len(set([len(head) for head in heads])) <= 1


def _is_number_of(form, value):
    """Whether an answer of this form can give this number to a head."""
    if form == "distinct":
        return is_number(value) and value == 1
    return is_number(value) and value != 0


def _are_numbers(form, value):
    """Whether the value is a dict of the numbers of an answer of this form."""
    if not isinstance(value, dict) or not all([is_head(head) for head in value]):
        return False
    return _are_of_one_length(value) and all([_is_number_of(form, value[head]) for head in value])


class Answer:
    """A form, and a number other than 0 for each of some heads. It never changes."""

    def __init__(self, form, numbers=None):
        if not is_form(form):
            raise InvalidAnswer("the form is none of distinct, count and sum")
        given = {} if numbers is None else numbers
        if numbers is not None and not _are_numbers(form, given):
            raise InvalidAnswer("the numbers are no dict from heads to numbers of this form")
        self._form = form
        self._numbers = {head: given[head] for head in sorted(given)}
        self._heads = tuple(self._numbers)

    @classmethod
    def of_heads(cls, heads):
        """The distinct answer with the heads of a tuple."""
        # What is no head may not be fit to be a key of a dict.
        if not isinstance(heads, tuple) or not all([is_head(head) for head in heads]):
            raise InvalidAnswer("the heads are no tuple of heads")
        return cls("distinct", {head: 1 for head in heads})

    @property
    def form(self):
        """The form."""
        return self._form

    @property
    def heads(self):
        """The ascending tuple of the heads."""
        return self._heads

    def pairs(self):
        """The ascending tuple of the pairs (head, number)."""
        return tuple([(head, self._numbers[head]) for head in self._heads])

    def __iter__(self):
        return iter(self._heads)

    def __getitem__(self, at):
        if not is_head(at):
            raise InvalidAnswer("this is no head")
        return self._numbers.get(at, 0)

    def __contains__(self, x):
        return is_head(x) and x in self._numbers

    def __len__(self):
        return len(self._heads)

    def __bool__(self):
        return bool(self._heads)

    def __eq__(self, other):
        return isinstance(other, Answer) and self._form == other._form and self._numbers == other._numbers

    def __str__(self):
        return f"{self._form} answer of {len(self._heads)} heads"

    def _check_numbers(self):
        if self._form == "distinct":
            raise InvalidOperation("distinct answers have no sums")

    def _check_heads(self):
        if self._form != "distinct":
            raise InvalidOperation("only distinct answers are sets of heads")

    def _check_other(self, other):
        if not isinstance(other, Answer) or other._form != self._form:
            raise InvalidOperation("the other value is no answer of the same form")
        if not _are_of_one_length([*self._heads, *other._heads]):
            raise InvalidOperation("the heads are of different lengths")

    def _plus(self, other, sign):
        """This answer and the other one, as often as the sign tells."""
        mine, others = self._numbers, other._numbers
        sums = {head: mine.get(head, 0) + sign * others.get(head, 0) for head in [*mine, *others]}
        return Answer(self._form, {head: sums[head] for head in sums if sums[head] != 0})

    def __add__(self, other):
        self._check_numbers()
        self._check_other(other)
        return self._plus(other, 1)

    def __sub__(self, other):
        self._check_numbers()
        self._check_other(other)
        return self._plus(other, -1)

    def __neg__(self):
        self._check_numbers()
        return Answer(self._form, {head: -self._numbers[head] for head in self._heads})

    def __or__(self, other):
        self._check_heads()
        self._check_other(other)
        return Answer(self._form, {head: 1 for head in [*self._heads, *other._heads]})

    def __and__(self, other):
        self._check_heads()
        self._check_other(other)
        return Answer(self._form, {head: 1 for head in self._heads if head in other._numbers})

    def __xor__(self, other):
        self._check_heads()
        self._check_other(other)
        mine, others = self._numbers, other._numbers
        return Answer(self._form, {head: 1 for head in [*mine, *others] if not (head in mine and head in others)})


def checked_answer(form, numbers):
    """The answer with a form and numbers that need no check, as they were made for it."""
    made = Answer(form)
    made._numbers = {head: numbers[head] for head in sorted(numbers)}
    made._heads = tuple(made._numbers)
    return made


def combined(form, *answers):
    """The answers of this form joined (distinct) or added."""
    if not is_form(form):
        raise InvalidAnswer("the form is none of distinct, count and sum")
    if not all([isinstance(answer, Answer) and answer.form == form for answer in answers]):
        raise InvalidOperation("some value is no answer of this form")
    # Sums on the way can lose all their heads, so each two answers are compared before.
    if not _are_of_one_length([head for answer in answers for head in answer.heads]):
        raise InvalidOperation("the heads are of different lengths")
    total = Answer(form)
    for answer in answers:
        total = total | answer if form == "distinct" else total + answer
    return total
