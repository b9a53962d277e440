"""Local checks: which constraints are noticed by nodes that look at their own rows alone."""

from dealtrows.ask.queries import Clause, Query
from dealtrows.base.names import is_name
from dealtrows.base.schemas import check_schema
from dealtrows.deal.placements import Placement, check_placement
from dealtrows.decide.verdicts import counterexample_of, is_right_for
from dealtrows.errors import InvalidClause, InvalidOperation, InvalidQuery, TooMany

# Tables have at most four columns.
_LETTERS = ("a", "b", "c", "d")
_OTHERS = ("e", "f", "g", "h")


def _is_pointed_at(schema, table, columns):
    """Whether a reference leads to a key."""
    references = schema.references
    return any([references[name][2:] == (table, columns) for name in references])


def _has_key_check(schema, table, columns):
    """Whether a key of a table has a check."""
    return len(columns) < len(schema.columns_of(table)) and not _is_pointed_at(schema, table, columns)


def key_check(schema, table, columns):
    """The check of a key."""
    check_schema(schema)
    if columns not in schema.keys_of(table):
        raise InvalidOperation("this is no key of the table")
    if not _has_key_check(schema, table, columns):
        raise InvalidOperation("the key has no check")
    named = schema.columns_of(table)
    one = tuple([_LETTERS[at] for at in range(len(named))])
    other = tuple([_LETTERS[at] if column in columns else _OTHERS[at] for at, column in enumerate(named)])
    parts = ((table, one), (table, other))
    clauses = [Clause(parts, tests=((low, "!=", high),)) for low, high in zip(one, other) if low != high]
    return Query.of(schema.without_key(table, columns), "distinct", tuple(clauses))


def reference_check(schema, name):
    """The check of a reference."""
    check_schema(schema)
    # What is no reference is refused here.
    left = schema.without_reference(name)
    table, columns, parent, key = schema.references[name]
    named = schema.columns_of(table)
    variables = dict(zip(named, _LETTERS))
    told = {at: variables[column] for column, at in zip(columns, key)}
    absent = [told.get(column, free) for column, free in zip(schema.columns_of(parent), _OTHERS)]
    part = (table, tuple([variables[column] for column in named]))
    try:
        return Query(left, "distinct", Clause((part,), absences=((parent, tuple(absent)),)))
    except InvalidQuery:
        raise InvalidOperation("the reference has no check")


def clause_check(schema, clause):
    """The check of a clause that never has a match."""
    check_schema(schema)
    if not isinstance(clause, Clause):
        raise InvalidClause("this is no clause")
    return Query(schema, "distinct", Clause(clause.parts, tests=clause.tests, absences=clause.absences))


def _is_askable(schema, value):
    """Whether the value is a clause with which a query of the schema can be made."""
    if not isinstance(value, Clause):
        return False
    try:
        clause_check(schema, value)
    except InvalidQuery:
        return False
    return True


def _is_constraint(schema, value):
    """Whether the value is a constraint of a schema."""
    if not isinstance(value, tuple) or not 2 <= len(value) <= 3:
        return False
    if len(value) == 3:
        return value[0] == "key" and value[1] in schema and value[2] in schema.keys_of(value[1])
    if value[0] == "reference":
        return is_name(value[1]) and value[1] in schema.references
    return value[0] == "never" and _is_askable(schema, value[1])


def _schema_without(schema, constraint):
    """The schema without a constraint of it."""
    if constraint[0] == "key":
        return schema.without_key(constraint[1], constraint[2])
    return schema.without_reference(constraint[1]) if constraint[0] == "reference" else schema


def relaxed(placement, constraint):
    """The placement with the same rules of the schema without a constraint."""
    check_placement(placement)
    if not _is_constraint(placement.schema, constraint):
        raise InvalidOperation("this is no constraint of the schema")
    rules = placement.rules
    if constraint[0] == "reference" and any([("with", constraint[1]) in rules[table] for table in rules]):
        raise InvalidOperation("a rule uses the reference")
    return Placement.of(_schema_without(placement.schema, constraint), rules)


def _check_of(schema, constraint):
    """The check of a constraint, or None for a key of all columns."""
    if constraint[0] == "never":
        return clause_check(schema, constraint[1])
    if constraint[0] == "reference":
        return reference_check(schema, constraint[1])
    if constraint[2] == schema.columns_of(constraint[1]):
        return None
    return key_check(schema, constraint[1], constraint[2])


def is_noticed(placement, constraint):
    """Whether a placement notices a constraint."""
    deal = relaxed(placement, constraint)
    query = _check_of(placement.schema, constraint)
    return query is None or is_right_for(deal, query)


def unnoticed(placement, constraint):
    """A case of the relaxed placement that is a counterexample of the check, or None."""
    deal = relaxed(placement, constraint)
    query = _check_of(placement.schema, constraint)
    return None if query is None else counterexample_of(deal, query)


def _constraints_of(schema):
    """The ascending list of the constraints of a schema."""
    found = [("key", table, key) for table in schema.tables for key in schema.keys_of(table)]
    return [*found, *[("reference", name) for name in schema.references]]


def _told(placement, constraint):
    """Whether a constraint is noticed, or None where that cannot be told."""
    try:
        return is_noticed(placement, constraint)
    except (InvalidOperation, TooMany):
        return None


def noticed(placement):
    """A dict from the keys and references to whether they are noticed, None where that cannot be told."""
    check_placement(placement)
    return {constraint: _told(placement, constraint) for constraint in _constraints_of(placement.schema)}
