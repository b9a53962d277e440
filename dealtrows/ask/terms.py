"""Terms, parts and tests, of which clauses are made."""

from dealtrows.base.names import is_name, is_number
from dealtrows.base.schemas import MAX_COLUMNS

_TERM_BOUND = 10 ** 20
_WORDS = ("=", "!=")


def is_term(value):
    """Whether the value is a variable or an integer of at most twenty digits."""
    return is_name(value) or is_number(value) and -_TERM_BOUND < value < _TERM_BOUND


def is_variable(term):
    """Whether a term is a variable."""
    return isinstance(term, str)


def is_part(value):
    """Whether the value is a part: a name and a tuple of one to four terms."""
    if not isinstance(value, tuple) or len(value) != 2 or not is_name(value[0]):
        return False
    terms = value[1]
    return isinstance(terms, tuple) and 1 <= len(terms) <= MAX_COLUMNS and all([is_term(term) for term in terms])


def is_test(value):
    """Whether the value is a test: a term, a word and a term."""
    if not isinstance(value, tuple) or len(value) != 3:
        return False
    return is_term(value[0]) and isinstance(value[1], str) and value[1] in _WORDS and is_term(value[2])


def variables_in(terms):
    """The ascending tuple of the variables among some terms."""
    return tuple(sorted(set([term for term in terms if is_variable(term)])))


def integers_in(terms):
    """The ascending tuple of the integers among some terms."""
    return tuple(sorted(set([term for term in terms if not is_variable(term)])))


def terms_of_parts(parts):
    """The list of the terms of parts, or of absences."""
    return [term for part in parts for term in part[1]]


def terms_of_tests(tests):
    """The list of the terms of tests."""
    return [term for test in tests for term in (test[0], test[2])]


def renamed_term(term, names):
    """The term with another name, if it is a variable that the dict names."""
    return names.get(term, term) if is_variable(term) else term


def renamed_terms(terms, names):
    """The terms with other names for variables."""
    return tuple([renamed_term(term, names) for term in terms])


def renamed_parts(parts, names):
    """The parts, or the absences, with other names for variables."""
    return tuple([(table, renamed_terms(terms, names)) for table, terms in parts])


def renamed_tests(tests, names):
    """The tests with other names for variables."""
    return tuple([(renamed_term(one, names), word, renamed_term(other, names)) for one, word, other in tests])
