"""Texts of schemas, queries, placements, databases and cases.

A line is read as an entry: the number of its kind, what the lines of this kind
ascend by, and what else it tells. Lines ascend by the first two of these.
"""

from dealtrows.ask.queries import Clause, Query, check_query
from dealtrows.base.databases import Database, rows_of
from dealtrows.base.names import is_ascending, is_name
from dealtrows.base.schemas import Schema, check_schema
from dealtrows.deal.cases import Case, check_case
from dealtrows.deal.placements import Placement, check_placement
from dealtrows.errors import InvalidDatabase, ParseError
from dealtrows.text.words import are_all_names, integer_in, integers_in_words, line_of, rule_words, rules_in_line
from dealtrows.text.words import split_at, terms_in_words

_TABLE = 0
_KEY = 1
_REFERENCE = 2
_ROW = 1
_SPREAD = 2
_LONE = 3
_CLAUSE = 0
_PART = 1
_TEST = 2
_ABSENT = 3
_SUM = 4


def _joined(lines):
    """The text of some lines, each a list of words."""
    return "\n".join([line_of(words) for words in lines])


def _split(text):
    """The list of the lines of a text, each a list of words."""
    if not isinstance(text, str):
        raise ParseError(None)
    return [line.split(" ") for line in text.split("\n")]


def _check_entries(entries):
    """Refuse the first line without an entry, or whose entry does not come behind the one before it."""
    for at, entry in enumerate(entries):
        if entry is None or at > 0 and not entries[at - 1][:2] < entry[:2]:
            raise ParseError(at)


def write_schema(schema):
    """The text of a schema."""
    check_schema(schema)
    tables, references = schema.tables, schema.references
    lines = [["table", table, *tables[table]] for table in tables]
    lines.extend([["key", table, *key] for table in tables for key in schema.keys_of(table)])
    for name in references:
        table, columns, parent, key = references[name]
        lines.append(["reference", name, table, *columns, "=", parent, *key])
    return _joined(lines)


def _reference_entry(names):
    """The entry of the words of a reference, or None."""
    found = split_at(names, "=")
    if found is None or len(found[0]) < 2 or not found[1] or not are_all_names([*found[0], *found[1]]):
        return None
    name, table, *columns = found[0]
    parent, *key = found[1]
    return (_REFERENCE, name, (table, tuple(columns), parent, tuple(key)))


def _schema_entry(words):
    """The entry of a line of a schema, or None."""
    if words[0] == "reference":
        return _reference_entry(words[1:])
    if words[0] not in ("table", "key") or len(words) < 2 or not are_all_names(words[1:]):
        return None
    columns = tuple(words[2:])
    if words[0] == "table":
        return (_TABLE, words[1], columns)
    return (_KEY, (words[1], columns), None)


def read_schema(text):
    """The schema with a text."""
    entries = [_schema_entry(words) for words in _split(text)]
    _check_entries(entries)
    keys = {}
    for kind, told, _ in entries:
        if kind == _KEY:
            keys[told[0]] = (*keys.get(told[0], ()), told[1])
    return Schema(
        {told: columns for kind, told, columns in entries if kind == _TABLE}, keys=keys,
        references={told: rest for kind, told, rest in entries if kind == _REFERENCE})


def write_query(query):
    """The text of a query."""
    check_query(query)
    lines = [[query.form]]
    for clause in query.clauses:
        lines.append(["clause", *clause.head])
        lines.extend([["part", table, *terms] for table, terms in clause.parts])
        lines.extend([["test", *test] for test in clause.tests])
        lines.extend([["absent", table, *terms] for table, terms in clause.absences])
        if clause.summed is not None:
            lines.append(["sum", clause.summed])
    return _joined(lines)


def _row_of_terms(kind, words):
    """The entry of a part or an absence, or None."""
    terms = terms_in_words(words[1:])
    if not words or not is_name(words[0]) or terms is None:
        return None
    return (kind, (words[0], terms))


def _test_entry(words):
    """The entry of a test, or None."""
    if len(words) != 3 or words[1] not in ("=", "!="):
        return None
    terms = terms_in_words([words[0], words[2]])
    return None if terms is None else (_TEST, (terms[0], words[1], terms[1]))


def _clause_entry(words):
    """The entry of a line of a clause, its kind and what it tells, or None."""
    told = words[1:]
    if words[0] == "clause":
        return (_CLAUSE, tuple(told)) if are_all_names(told) else None
    if words[0] == "test":
        return _test_entry(told)
    if words[0] == "sum":
        terms = terms_in_words(told)
        return None if terms is None or len(terms) != 1 else (_SUM, terms[0])
    if words[0] in ("part", "absent"):
        return _row_of_terms(_PART if words[0] == "part" else _ABSENT, told)
    return None


def _may_follow(kind, before):
    """Whether a line of a clause may come behind one of another kind, None being the form."""
    if kind == _CLAUSE:
        return True
    return before is not None and (before < kind or before == kind and kind != _SUM)


def _clause_of(entries):
    """The clause with the entries of its lines."""
    told = [[value for kind, value in entries if kind == wanted] for wanted in (_CLAUSE, _PART, _TEST, _ABSENT, _SUM)]
    head, parts, tests, absences, summed = told
    return Clause(tuple(parts), tests=tuple(tests), absences=tuple(absences), head=head[0],
                  summed=summed[0] if summed else None)


def read_query(schema, text):
    """The query with a text."""
    check_schema(schema)
    lines = _split(text)
    if len(lines[0]) != 1 or not Query.is_form(lines[0][0]):
        raise ParseError(0)
    groups = []
    before = None
    for at in range(1, len(lines)):
        entry = _clause_entry(lines[at])
        if entry is None or not _may_follow(entry[0], before):
            raise ParseError(at)
        before = entry[0]
        if before == _CLAUSE:
            groups.append([entry])
        else:
            groups[-1].append(entry)
    return Query.of(schema, lines[0][0], tuple([_clause_of(entries) for entries in groups]))


def write_placement(placement):
    """The text of a placement."""
    check_placement(placement)
    rules = placement.rules
    told = {table: ", ".join([line_of(rule_words(rule)) for rule in rules[table]]) for table in rules}
    return "\n".join([f"{table}: {told[table]}" for table in told])


def _rules_entry(words):
    """The entry of a line of a placement, whose rules ascend, or None."""
    found = rules_in_line(line_of(words))
    if found is None or not is_ascending(found[1]):
        return None
    return (_TABLE, found[0], found[1])


def read_placement(schema, text):
    """The placement with a text."""
    check_schema(schema)
    entries = [_rules_entry(words) for words in _split(text)]
    _check_entries(entries)
    return Placement.of(schema, {table: rules for _, table, rules in entries})


def _row_lines(database):
    """The lines of the rows of a database."""
    return [["row", table, *row] for table, row in database.pairs()]


def write_database(database):
    """The text of a database."""
    if not isinstance(database, Database):
        raise InvalidDatabase("this is no database")
    return _joined(_row_lines(database))


def _integers_entry(kind, words, value):
    """The entry of a name and integers, or None."""
    integers = integers_in_words(words[1:])
    if not words or not is_name(words[0]) or integers is None:
        return None
    return (kind, (words[0], integers), value)


def _row_entry(words):
    """The entry of a line of a database, or None."""
    return _integers_entry(_ROW, words[1:], None) if words[0] == "row" else None


def read_database(schema, text):
    """The database with a text."""
    check_schema(schema)
    # Without rows there is no line.
    entries = [] if text == "" else [_row_entry(words) for words in _split(text)]
    _check_entries(entries)
    return Database(schema, rows_of([pair for _, pair, _ in entries]))


def write_case(case):
    """The text of a case."""
    check_case(case)
    spreads, lone = case.spreads, case.lone
    lines = [["nodes", case.nodes], *_row_lines(case.database)]
    lines.extend([["spread", spread, *integers, "=", spreads[spread, integers]] for spread, integers in spreads])
    lines.extend([["lone", table, *row, "=", lone[table, row]] for table, row in lone])
    return _joined(lines)


def _place_entry(kind, words):
    """The entry of a place and its node, or None."""
    found = split_at(words, "=")
    if found is None or len(found[1]) != 1:
        return None
    node = integer_in(found[1][0])
    return None if node is None else _integers_entry(kind, found[0], node)


def _case_entry(words):
    """The entry of a line of a case, behind the first one, or None."""
    if words[0] == "spread":
        return _place_entry(_SPREAD, words[1:])
    return _place_entry(_LONE, words[1:]) if words[0] == "lone" else _row_entry(words)


def read_case(placement, text):
    """The case of a placement with a text."""
    check_placement(placement)
    first, *rest = _split(text)
    nodes = integer_in(first[1]) if len(first) == 2 and first[0] == "nodes" else None
    entries = [None if nodes is None else (0, nodes, None), *[_case_entry(words) for words in rest]]
    _check_entries(entries)
    database = Database(placement.schema, rows_of([told for kind, told, _ in entries if kind == _ROW]))
    return Case(placement, database, nodes=nodes,
                spreads={told: node for kind, told, node in entries if kind == _SPREAD},
                lone={told: node for kind, told, node in entries if kind == _LONE})
