"""What the document says of small cases and of right queries, followed word by word and without haste."""

import itertools

from dealtrows.ask.matches import open_matches
from dealtrows.base.databases import Database, first_broken
from dealtrows.deal.cases import Case
from dealtrows.decide.patterns import patterns
from dealtrows.errors import BrokenConstraint

ALL, FIRST = ("all",), ("first",)


def ties_of(query, rows):
    """[9.1]"""
    found = set()
    for index, clause in enumerate(query.clauses):
        for match in open_matches(query, index, rows):
            for table, terms in clause.absences:
                columns = query.schema.columns_of(table)
                pairs = [(column, match.get(term, term)) for column, term in zip(columns, terms)
                         if not isinstance(term, str) or term in match]
                found.add((table, tuple(sorted(pairs))))
    return sorted(found)


def given_places(placement, database, tie):
    """[9.2]: the places, or None for an open one."""
    table, told = tie[0], dict(tie[1])
    (rule,) = placement[table]
    if rule in (ALL, FIRST):
        return {rule}
    if rule[0] == "with":
        _, columns, parent, key = placement.schema.references[rule[1]]
        for row in database[parent]:
            values = dict(zip(placement.schema.columns_of(parent), row))
            if all(values[there] == told[here] for here, there in zip(columns, key)):
                return set(placement.places_of(database, parent, row))
    if rule[0] == "by" and set(rule[2]) <= set(told):
        return {("by", rule[1], tuple(told[column] for column in rule[2]))}
    return None


def is_layout(layout):
    """[9.3]"""
    least = {}
    for place in sorted(layout):
        least.setdefault(layout[place], place)
    blocks = sorted(least, key=lambda node: (layout.get(FIRST) != node, least[node]))
    return blocks == list(range(len(blocks)))


def layouts_of(places):
    for nodes in itertools.product(range(len(places)), repeat=len(places)):
        layout = dict(zip(sorted(places), nodes))
        if is_layout(layout):
            yield layout


def sets_of(query, tie, is_given, nodes):
    """[9.4]: the sets of nodes for a tie; of a given place just how many rows it has."""
    if is_given:
        return [(), (None,)]
    table, told = tie[0], dict(tie[1])
    columns = query.schema.columns_of(table)
    single = any(set(key) <= set(told) for key in (*query.schema.keys_of(table), columns))
    found = []
    for size in range(nodes + 1):
        for chosen in itertools.combinations(range(nodes), size):
            wanted = size <= 1 or (size == nodes if query.form == "distinct" else size == 2)
            if wanted and not (single and size > 1):
                found.append(chosen)
    return found


def greatest(query):
    summed = [clause.summed for clause in query.clauses if isinstance(clause.summed, int)]
    return max([abs(number) for number in (*query.integers, *summed)], default=0)


def is_plain(query):
    return query.form == "distinct" and not any(clause.absences for clause in query.clauses)


def places_of(placement, query, pattern):
    """The places of a pattern, its ties, and the places that are given for these."""
    tables = {table for clause in query.clauses for table, _ in clause.parts}
    database = pattern.database
    ties = ties_of(query, database.rows)
    given = [given_places(placement, database, tie) for tie in ties]
    places = {place for table, row in database.pairs() if table in tables
              for place in placement.places_of(database, table, row)}
    return sorted((places | {place for told in given if told for place in told}) - {ALL}), ties, given


def choices_of(placement, query):
    """All choices of a pattern, a layout, a number of nodes, and sets of nodes for its ties."""
    for pattern in patterns(query):
        places, ties, given = places_of(placement, query, pattern)
        for layout in layouts_of(places):
            used = len(set(layout.values()))
            for nodes in (max(1, used), max(1, used) + 1):
                if is_plain(query) and (used < len(places) or nodes > max(1, used)):
                    continue
                sets = [sets_of(query, tie, told is not None, nodes) for tie, told in zip(ties, given)]
                for chosen in itertools.product(*sets):
                    yield pattern, layout, nodes, list(zip(ties, given, chosen))


def case_of(placement, query, pattern, layout, nodes, chosen):
    """The small case of a choice, or None if it breaks keys."""
    rows = {table: list(told) for table, told in pattern.database.rows.items()}
    number = -greatest(query) - 1
    lone = {}
    for (table, pairs), given, told in chosen:
        for node in told:
            row = []
            for column in placement.schema.columns_of(table):
                if column in dict(pairs):
                    row.append(dict(pairs)[column])
                else:
                    number -= 1
                    row.append(number)
            if tuple(row) not in rows[table]:
                rows[table].append(tuple(row))
            if given is None:
                lone[table, tuple(row)] = node
    try:
        database = Database(placement.schema, {table: tuple(told) for table, told in rows.items()})
    except BrokenConstraint:
        return None
    places = {}
    for table, row in database.pairs():
        for place in placement.places_of(database, table, row):
            if place != ALL:
                places[place] = layout.get(place, lone.get((table, row), places.get(place, 0)))
    return Case.of_places(placement, database, nodes, places)


def key_of(case):
    return (case.nodes, case.database.pairs(), tuple(case.places.items()))


def small_case_keys(placement, query):
    """The keys of all small cases."""
    made = [case_of(placement, query, *choice) for choice in choices_of(placement, query)]
    return {key_of(case) for case in made if case is not None}


def all_rows(schema, values):
    """All rows of all tables over some values, as pairs."""
    return [(table, row) for table, columns in schema.tables.items()
            for row in itertools.product(values, repeat=len(columns))]


def all_databases(schema, values, most):
    """All databases of at most so many rows over some values."""
    pairs = all_rows(schema, values)
    for size in range(most + 1):
        for chosen in itertools.combinations(pairs, size):
            rows = {table: tuple(row for other, row in chosen if other == table) for table in schema.tables}
            if first_broken(schema, rows) is None:
                yield Database(schema, rows)


def all_cases(placement, values, most, nodes):
    """All cases with at most so many rows over some values, and so many nodes."""
    for database in all_databases(placement.schema, values, most):
        places = [place for place in placement.places_in(database) if place != ALL]
        for told in itertools.product(range(nodes), repeat=len(places)):
            layout = dict(zip(places, told))
            if layout.get(FIRST, 0) == 0:
                yield Case.of_places(placement, database, nodes, layout)


def all_subcases(case):
    """All subcases, some of them several times."""
    pairs = case.database.pairs()
    for size in range(len(pairs) + 1):
        for chosen in itertools.combinations(pairs, size):
            database = case.database.closure_of(*chosen)
            places = {place: case.places[place] for place in case.placement.places_in(database) if place != ALL}
            yield Case.of_places(case.placement, database, case.nodes, places)
