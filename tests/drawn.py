"""Drawn placements and queries, over schemas with keys and references of several kinds."""

from dealtrows.ask.queries import Clause, Query
from dealtrows.base.schemas import Schema
from dealtrows.deal.placements import Placement
from dealtrows.errors import InvalidClause, InvalidQuery
from samples import SHOP

SCHEMAS = (
    SHOP,
    Schema({"c": ("x", "y"), "n": ("u", "v"), "p": ("k",), "q": ("k",), "r": ("x", "y")}, keys={"p": (("k",),), "q": (("k",),)},
           references={"cp": ("c", ("x",), "p", ("k",)), "cq": ("c", ("y",), "q", ("k",))}),
    Schema({"a": ("x", "y"), "b": ("x",), "n": ("u", "v")}, keys={"a": (("x",),), "n": (("u",),)}),
    Schema({"a": ("k", "x"), "b": ("k", "y"), "c": ("x",), "n": ("k", "m", "z")},
           keys={"a": (("k",), ("x",)), "b": (("k",),), "n": (("k", "m"),)},
           references={"ab": ("a", ("x",), "b", ("k",)), "nb": ("n", ("k",), "b", ("k",))}),
    Schema({"t": ("a", "b"), "u": ("k", "l"), "v": ("k",)}, keys={"u": (("k",), ("k", "l")), "v": (("k",),)},
           references={"tu": ("t", ("b", "a"), "u", ("k", "l")), "uv": ("u", ("l",), "v", ("k",))}))


def drawn_rules(drawn, schema, table, many):
    """So many rules of a table, or ("all",) alone."""
    columns = schema.columns_of(table)
    rules = [("all",), ("first",), ("any",), *[("by", name, (drawn.choice(columns),)) for name in "stu"]]
    rules.extend(("with", name) for name in schema.references_of(table) for _ in range(3))
    if len(columns) > 1:
        rules.append(("by", "w", tuple(drawn.sample(columns, 2))))
    chosen = sorted(set(drawn.sample(rules, many)))
    return (("all",),) if ("all",) in chosen else tuple(chosen)


def drawn_placement(drawn, query, least=1):
    """A placement by which a query has small cases, unless these are too many."""
    absent = {table for clause in query.clauses for table, _ in clause.absences}
    many = {table: 1 if table in absent else drawn.randint(least, 2) for table in query.schema.tables}
    return Placement.of(query.schema, {table: drawn_rules(drawn, query.schema, table, many[table]) for table in many})


def drawn_terms(drawn, columns, told, integers):
    """The terms of an absence, some of them free."""
    free = iter("fghi")
    return tuple(drawn.choice(told) if drawn.random() < 0.6 else drawn.choice((next(free), next(free), *integers)) for _ in columns[:2]) + tuple(
        drawn.choice((*told, "z")) for _ in columns[2:])


def drawn_clause(drawn, schema, form, width, integers, absent):
    """A clause with so many absences, perhaps such that no query can have."""
    names = "abcde"[:drawn.randint(2, 5)]
    tables = [drawn.choice(list(schema.tables)) for _ in range(drawn.choice((1, 2, 2, 3)))]
    parts = tuple((table, tuple(drawn.choice(integers if drawn.random() < 0.07 else names) for _ in schema.columns_of(table)))
                  for table in tables)
    told = sorted({term for _, terms in parts for term in terms if isinstance(term, str)}) or ["none"]
    tests = []
    while drawn.random() < 0.25 and len(tests) < 4:
        tests.append((drawn.choice(told), drawn.choice(("=", "!=")), drawn.choice([*told, drawn.choice(integers)])))
    banned = [drawn.choice(list(schema.tables)) for _ in range(absent)]
    absences = tuple((table, drawn_terms(drawn, schema.columns_of(table), told, integers)) for table in banned)
    summed = drawn.choice([*told, drawn.choice(integers)]) if form == "sum" else None
    head = tuple(drawn.choice(told) for _ in range(width))
    return Clause(parts, tests=tuple(tests), absences=absences, head=head, summed=summed)


def drawn_query(drawn, schema, absent):
    """A query with at most so many absences in each clause."""
    while True:
        form, width = drawn.choice(("distinct", "count", "count", "sum")), drawn.choice((0, 0, 1, 2))
        integers = drawn.sample(range(-2, 4), 2)
        try:
            numbers = [drawn.randint(0, absent) for _ in range(drawn.choice((1, 1, 2)))]
            clauses = [drawn_clause(drawn, schema, form, width, integers, number) for number in numbers]
            clauses.extend(clauses[:1] if drawn.random() < 0.2 else [])
            query = Query(schema, form, *clauses)
        except (InvalidClause, InvalidQuery):
            continue
        if not absent or any(clause.absences for clause in clauses):
            return query
