"""Patterns: which terms of a clause are equal in an open match and its closure."""

from dealtrows.ask.joins import is_open
from dealtrows.ask.matches import is_assignment
from dealtrows.ask.queries import check_query
from dealtrows.base.databases import Database
from dealtrows.base.names import is_number
from dealtrows.decide.drafts import Draft
from dealtrows.decide.templates import template_of
from dealtrows.errors import InvalidDatabase, InvalidNumber, InvalidOperation, TooMany

MAX_SYMBOLS = 7
MAX_CLOSURE = 8


class Pattern:
    """An open match of a clause and its closure, with values of their own. It never changes."""

    def __init__(self, clause, match, database, fresh):
        self._clause = clause
        self._match = match
        self._database = database
        self._fresh = fresh

    @property
    def clause(self):
        """The index of the clause."""
        return self._clause

    @property
    def match(self):
        """The open match."""
        return dict(self._match)

    @property
    def database(self):
        """The database of the rows."""
        return self._database

    @property
    def fresh(self):
        """The ascending tuple of the values that are not named integers."""
        return self._fresh

    def __eq__(self, other):
        return (isinstance(other, Pattern) and self._clause == other._clause and self._match == other._match
                and self._database == other._database)

    def __str__(self):
        return f"pattern of clause {self._clause} with {len(self._database.pairs())} rows"


def _checked_draft(query, index):
    """The draft of a clause, or None if it has no template; refused if that is too large."""
    template = template_of(query.schema, query.clauses[index])
    if template is None:
        return None
    if len(template.symbols()) + len(query.integers) > MAX_SYMBOLS:
        raise TooMany(MAX_SYMBOLS)
    if len(template.lines()) > MAX_CLOSURE:
        raise TooMany(MAX_CLOSURE)
    return Draft(query, index, template)


def drafts_of(query):
    """The list of the drafts of all clauses, None for a clause without a template."""
    check_query(query)
    if query.kept_drafts is None:
        query.kept_drafts = [_checked_draft(query, index) for index in range(len(query))]
    return list(query.kept_drafts)


def _draft_of(query, index):
    """The draft of a clause that has a template; other clauses may have templates that are too large."""
    return _checked_draft(query, index) if query.kept_drafts is None else query.kept_drafts[index]


def pattern_with(draft, values, used):
    """The pattern of a draft with some values, so many of them of classes without an integer."""
    database = draft.database_with(draft.pairs_with(values))
    return Pattern(draft.of_clause, draft.match_with(values), database, draft.fresh_values(used))


def patterns(query):
    """The patterns of all clauses, each once, those of earlier clauses first."""
    for draft in drafts_of(query):
        if draft is not None:
            for values, used in draft.valuations():
                yield pattern_with(draft, values, used)


def pattern_in(draft, database, match):
    """The pattern of an open match of the clause of a draft, all of which is checked."""
    values, used, _ = draft.values_of_match(database, match)
    return pattern_with(draft, values, used)


def pattern_of(query, clause, database, match):
    """The pattern of an open match of the clause with this index."""
    check_query(query)
    if not is_number(clause) or not 0 <= clause < len(query):
        raise InvalidNumber(clause)
    if not isinstance(database, Database) or database.schema != query.schema:
        raise InvalidDatabase("this is no database of an equal schema")
    told = query.clauses[clause]
    if not is_assignment(told, match) or not is_open(told, database.rows, match):
        raise InvalidOperation("this is no open match in the database")
    return pattern_in(_draft_of(query, clause), database, match)


def pattern_key(pattern):
    """What tells two patterns of one query apart, as the key of a dict."""
    match = pattern.match
    return (pattern.clause, tuple([(name, match[name]) for name in match]), pattern.database.pairs())


def is_pattern_of(query, drafts, value):
    """Whether the value is equal to a pattern of a query with these drafts."""
    if not isinstance(value, Pattern) or value.clause >= len(query) or value.database.schema != query.schema:
        return False
    clause = query.clauses[value.clause]
    if not is_assignment(clause, value.match) or not is_open(clause, value.database.rows, value.match):
        return False
    # A clause with an open match has a template.
    return pattern_in(drafts[value.clause], value.database, value.match) == value


def is_pattern(query, value):
    """Whether the value is equal to a pattern of the query."""
    return is_pattern_of(query, drafts_of(query), value)
