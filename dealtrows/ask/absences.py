"""The rules that the absences of a query keep."""

from dealtrows.ask.terms import is_variable


def tied_columns(schema, clause, absence):
    """The tuple of the columns of an absence of a clause that have no free variable."""
    table, terms = absence
    return tuple([column for column, term in zip(schema.columns_of(table), terms)
                  if not is_variable(term) or term in clause.variables])


def _terms_in(schema, part, columns):
    """The terms that a part, or an absence, has in these columns."""
    named = schema.columns_of(part[0])
    return [part[1][named.index(column)] for column in columns]


def _are_apart(schema, clauses):
    """Whether no table of an absence is the table of a part, or one to which a part's table leads."""
    tables = [table for clause in clauses for table, _ in clause.parts]
    for clause in clauses:
        for absent, _ in clause.absences:
            if absent in tables or any([schema.leads_to(table, absent) for table in sorted(set(tables))]):
                return False
    return True


def _has_parent(schema, clause, absence, reference):
    """Whether some part of the clause is the parent of the absence by a reference."""
    _, columns, parent, key = reference
    wanted = _terms_in(schema, absence, columns)
    for part in clause.parts:
        if part[0] == parent and _terms_in(schema, part, key) == wanted:
            return True
    return False


def _have_parents(schema, clause):
    """Whether all absences of a clause have all their parents among its parts."""
    references = schema.references
    for absence in clause.absences:
        for name in schema.references_of(absence[0]):
            if not _has_parent(schema, clause, absence, references[name]):
                return False
    return True


def _share_no_key(schema, table, one, other):
    """Whether tied columns of two absences of a table are the same, or both contain no key."""
    if one == other:
        return True
    return not any([all([column in one and column in other for column in key]) for key in schema.keys_of(table)])


def _are_tied_alike(schema, clauses):
    """Whether absences of one table with different tied columns have no key in both."""
    found = [(clause, absence) for clause in clauses for absence in clause.absences]
    if len(found) < 2:
        return True
    ties = [(absence[0], tied_columns(schema, clause, absence)) for clause, absence in found]
    return all([_share_no_key(schema, table, one, other)
                for table, one in ties for partner, other in ties if table == partner])


def keep_rules(schema, clauses):
    """Whether the absences of clauses that fit a schema keep the four rules of a query."""
    if not _are_apart(schema, clauses) or not all([_have_parents(schema, clause) for clause in clauses]):
        return False
    return _are_tied_alike(schema, clauses)
