"""Patterns: which terms of a clause are equal in an open match and its closure."""

from dealtrows.ask.joins import is_open, value_of, values_of
from dealtrows.ask.matches import is_assignment
from dealtrows.ask.queries import check_query
from dealtrows.ask.terms import is_variable, terms_of_parts
from dealtrows.base.databases import Database, rows_of
from dealtrows.base.names import is_number
from dealtrows.base.schemas import picked
from dealtrows.decide.templates import template_of
from dealtrows.errors import InvalidDatabase, InvalidNumber, InvalidOperation, TooMany

MAX_SYMBOLS = 7
MAX_CLOSURE = 8
_STEP = 100000


class Pattern:
    """An open match of a clause and its closure, with values of their own. It never changes."""

    def __init__(self, clause, match, database, fresh):
        self._clause = clause
        self._match = match
        self._database = database
        self._fresh = fresh

    @property
    def clause(self):
        """The index of the clause."""
        return self._clause

    @property
    def match(self):
        """The open match."""
        return dict(self._match)

    @property
    def database(self):
        """The database of the rows."""
        return self._database

    @property
    def fresh(self):
        """The ascending tuple of the values that are not named integers."""
        return self._fresh

    def __eq__(self, other):
        return (isinstance(other, Pattern) and self._clause == other._clause and self._match == other._match
                and self._database == other._database)

    def __str__(self):
        return f"pattern of clause {self._clause} with {len(self._database.pairs())} rows"


def bound_of(query):
    """One more than the greatest absolute value of the integers of a query, summed ones too."""
    summed = [clause.summed for clause in query.clauses if clause.summed is not None]
    told = [*query.integers, *[term for term in summed if not is_variable(term)]]
    return max([0, *[abs(number) for number in told]]) + 1


def _fresh_values(query, many):
    """The values of so many classes without an integer."""
    found = []
    value = bound_of(query)
    for _ in range(many):
        value = value * _STEP
        found.append(value)
    return found


def _checked_template(query, index):
    """The template of a clause, or None; refused if it is too large."""
    template = template_of(query.schema, query.clauses[index])
    if template is not None:
        if len(template.symbols()) + len(query.integers) > MAX_SYMBOLS:
            raise TooMany(MAX_SYMBOLS)
        if len(template.lines()) > MAX_CLOSURE:
            raise TooMany(MAX_CLOSURE)
    return template


def _checked_templates(query):
    """The templates of all clauses, None for a clause without one."""
    check_query(query)
    return [_checked_template(query, index) for index in range(len(query))]


def _valuations(symbols, integers, fresh):
    """All dicts that give symbols named integers or values of classes, which are numbered as they come."""
    found = [({}, 0)]
    for symbol in symbols:
        # What is given so far can be given on, or a value of a class of its own.
        found = [({**known, symbol: number}, max(used, at + 1 - len(integers)))
                 for known, used in found for at, number in enumerate([*integers, *fresh[:used + 1]])]
    return [known for known, _ in found]


def _hold_tests(clause, template, known):
    """Whether the tests hold that two terms are unequal; those that they are equal hold in each template."""
    return all([word == "=" or value_of(template.term_of(one), known) != value_of(template.term_of(other), known)
                for one, word, other in clause.tests])


def _keep_keys(schema, pairs):
    """Whether no two different pairs agree on a key."""
    seen = {}
    for table, row in pairs:
        for key in schema.keys_of(table):
            if seen.setdefault((table, key, picked(schema.columns_of(table), row, key)), row) != row:
                return False
    return True


def _pattern_with(query, index, template, known):
    """The pattern that gives the symbols of a template these values, or None if it is none."""
    clause = query.clauses[index]
    if not _hold_tests(clause, template, known):
        return None
    pairs = [(table, values_of(terms, known)) for table, terms in template.lines()]
    if not _keep_keys(query.schema, pairs):
        return None
    match = {name: value_of(template.term_of(name), known) for name in clause.variables}
    fresh = [known[symbol] for symbol in known if known[symbol] not in query.integers]
    return Pattern(index, match, Database(query.schema, rows_of(sorted(set(pairs)))), tuple(sorted(set(fresh))))


def _patterns_of(query, index, template):
    """The list of the patterns of a clause with this template."""
    symbols = template.symbols()
    valuations = _valuations(symbols, query.integers, _fresh_values(query, len(symbols)))
    found = [_pattern_with(query, index, template, known) for known in valuations]
    return [pattern for pattern in found if pattern is not None]


def patterns(query):
    """The patterns of all clauses, each once, those of earlier clauses first."""
    templates = _checked_templates(query)
    for index, template in enumerate(templates):
        if template is not None:
            for pattern in _patterns_of(query, index, template):
                yield pattern


def _listed_pairs(query, clause, database, match):
    """The pairs of the rows of a match and its closure, in the order of the document."""
    parts = [(table, values_of(terms, match)) for table, terms in clause.parts]
    found = list({pair: True for pair in parts})
    at = 0
    while at < len(found):
        table, row = found[at]
        above = [database.pair_above(name, row) for name in query.schema.references_of(table)]
        found = list({pair: True for pair in [*found, *above]})
        at += 1
    return found


def values_in_pattern(query, clause, database, match):
    """A dict from the integers of an open match and its closure to those of its pattern."""
    numbers = terms_of_parts(_listed_pairs(query, clause, database, match))
    fresh = list({number: True for number in numbers if number not in query.integers})
    told = dict(zip(fresh, _fresh_values(query, len(fresh))))
    return {number: told.get(number, number) for number in numbers}


def pattern_in(query, index, database, match):
    """The pattern of an open match, all of which is checked."""
    clause = query.clauses[index]
    values = values_in_pattern(query, clause, database, match)
    pairs = [(table, tuple([values[number] for number in row]))
             for table, row in _listed_pairs(query, clause, database, match)]
    told = {name: values[match[name]] for name in clause.variables}
    fresh = [values[number] for number in values if number not in query.integers]
    return Pattern(index, told, Database(query.schema, rows_of(sorted(set(pairs)))), tuple(sorted(fresh)))


def pattern_of(query, clause, database, match):
    """The pattern of an open match of the clause with this index."""
    check_query(query)
    if not is_number(clause) or not 0 <= clause < len(query):
        raise InvalidNumber(clause)
    if not isinstance(database, Database) or database.schema != query.schema:
        raise InvalidDatabase("this is no database of an equal schema")
    told = query.clauses[clause]
    if not is_assignment(told, match) or not is_open(told, database.rows, match):
        raise InvalidOperation("this is no open match in the database")
    _checked_template(query, clause)
    return pattern_in(query, clause, database, match)


def pattern_key(pattern):
    """What tells two patterns of one query apart, as the key of a dict."""
    match = pattern.match
    return (pattern.clause, tuple([(name, match[name]) for name in match]), pattern.database.pairs())


def is_known_pattern(query, value):
    """Whether the value is equal to a pattern of a query whose templates are checked."""
    if not isinstance(value, Pattern) or value.clause >= len(query) or value.database.schema != query.schema:
        return False
    clause = query.clauses[value.clause]
    if not is_assignment(clause, value.match) or not is_open(clause, value.database.rows, value.match):
        return False
    return pattern_in(query, value.clause, value.database, value.match) == value


def is_pattern(query, value):
    """Whether the value is equal to a pattern of the query."""
    _checked_templates(query)
    return is_known_pattern(query, value)
