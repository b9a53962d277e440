"""Terms, parts and tests, of which clauses are made."""

from dealtrows.base.names import MAX_LETTERS, is_name, is_number
from dealtrows.base.schemas import MAX_COLUMNS

_TERM_BOUND = 10 ** 20
_WORDS = ("=", "!=")


def is_term(value):
    """Whether the value is a variable or an integer of at most twenty digits."""
    if isinstance(value, str):
        return is_name(value)
    return is_number(value) and -_TERM_BOUND < value < _TERM_BOUND


def is_variable(term):
    """Whether a term is a variable."""
    return isinstance(term, str)


def _are_terms(values):
    """Whether all values of a list are terms."""
    # Clauses have many terms, so this says once more what a name and an integer are.
    for value in values:
        if isinstance(value, str):
            if len(value) > MAX_LETTERS or not (value.isascii() and value.isalpha() and value.islower()):
                return False
        elif not isinstance(value, int) or isinstance(value, bool) or not -_TERM_BOUND < value < _TERM_BOUND:
            return False
    return True


def terms_in_parts(value, least, most):
    """The list of the terms of a tuple of so many parts, or absences, or None if the value is none."""
    if not isinstance(value, tuple) or not least <= len(value) <= most:
        return None
    found = []
    for part in value:
        if not isinstance(part, tuple) or len(part) != 2 or not is_name(part[0]):
            return None
        terms = part[1]
        if not isinstance(terms, tuple) or not 1 <= len(terms) <= MAX_COLUMNS:
            return None
        found.extend(terms)
    return found if _are_terms(found) else None


def is_test(value):
    """Whether the value is a test: a term, a word and a term."""
    if not isinstance(value, tuple) or len(value) != 3:
        return False
    return is_term(value[0]) and isinstance(value[1], str) and value[1] in _WORDS and is_term(value[2])


def variables_in(terms):
    """The ascending tuple of the variables among some terms."""
    return tuple(sorted(set([term for term in terms if isinstance(term, str)])))


def integers_in(terms):
    """The ascending tuple of the integers among some terms."""
    return tuple(sorted(set([term for term in terms if not isinstance(term, str)])))


def terms_of_parts(parts):
    """The list of the terms of parts, or of absences."""
    return [term for part in parts for term in part[1]]


def terms_of_tests(tests):
    """The list of the terms of tests."""
    return [term for test in tests for term in (test[0], test[2])]


def renamed_term(term, names):
    """The term with another name, if it is a variable that the dict names."""
    return names.get(term, term) if is_variable(term) else term


def renamed_terms(terms, names):
    """The terms with other names for variables."""
    return tuple([renamed_term(term, names) for term in terms])


def renamed_parts(parts, names):
    """The parts, or the absences, with other names for variables."""
    return tuple([(table, renamed_terms(terms, names)) for table, terms in parts])


def renamed_tests(tests, names):
    """The tests with other names for variables."""
    return tuple([(renamed_term(one, names), word, renamed_term(other, names)) for one, word, other in tests])


def terms_made_one(clause):
    """The term that each variable is by the tests, or None if two integers would be one."""
    told = {name: name for name in clause.variables}
    for one, word, other in clause.tests:
        low, high = told.get(one, one), told.get(other, other)
        if word == "=" and low != high:
            new, old = (low, high) if is_variable(high) else (high, low)
            if not is_variable(old):
                return None
            # The first of equal variables stands for both, so that matches still ascend by all of them.
            if is_variable(new) and old < new:
                new, old = old, new
            told = {name: new if told[name] == old else told[name] for name in told}
    return told
