"""Databases: rows that keep the keys and the references of a schema."""

from dealtrows.base.ascending import with_value, without_keys, without_value
from dealtrows.base.names import are_integers, is_name
from dealtrows.base.schemas import check_schema, picked
from dealtrows.errors import BrokenConstraint, InvalidDatabase, InvalidOperation, InvalidRow
from dealtrows.errors import MissingRow, TooMany, UnknownName

MAX_ROWS = 100


def _are_rows_of(schema, table, value):
    """Whether the value is a tuple of different rows of a table."""
    if table not in schema or not isinstance(value, tuple):
        return False
    width = len(schema.columns_of(table))
    for row in value:
        if not are_integers(row) or len(row) != width:
            return False
    return len(value) < 2 or len(set(value)) == len(value)


def is_rows(schema, value):
    """Whether the value is a dict from some tables to tuples of different rows of theirs."""
    check_schema(schema)
    return isinstance(value, dict) and all([_are_rows_of(schema, table, value[table]) for table in value])


def many_rows(rows):
    """How many rows there are in a dict of rows."""
    return sum([len(rows[table]) for table in rows])


def is_pair(schema, value):
    """Whether the value is a pair of a table and a row of it."""
    if not isinstance(value, tuple) or len(value) != 2:
        return False
    return value[0] in schema and schema.is_row_of(value[0], value[1])


def _values_in(schema, rows, table, columns):
    """For each row of a table its integers in these columns."""
    there = rows.get(table, ())
    if not there:
        return []
    named = schema.columns_of(table)
    places = [named.index(column) for column in columns]
    return [tuple([row[at] for at in places]) for row in there]


def _first_broken_key(schema, rows):
    for table in sorted(rows):
        for key in schema.keys_of(table):
            if len(set(_values_in(schema, rows, table, key))) < len(rows[table]):
                return ("key", table, key)
    return None


def _parents_by(schema, rows, reference):
    """For each row of the table of a reference its parent, None for a row without one."""
    table, columns, parent, key = reference
    by_key = dict(zip(_values_in(schema, rows, parent, key), rows.get(parent, ())))
    return [by_key.get(values) for values in _values_in(schema, rows, table, columns)]


def first_broken(schema, rows):
    """The first constraint that the rows break, or None."""
    if not is_rows(schema, rows):
        raise InvalidRow("these are no rows of the schema")
    broken_key = _first_broken_key(schema, rows)
    if broken_key is not None:
        return broken_key
    references = schema.references
    for name in references:
        if None in _parents_by(schema, rows, references[name]):
            return ("reference", name)
    return None


def _parents_in(schema, rows):
    """The parent pair of each row by each reference, by the name of the reference and the row."""
    found = {}
    references = schema.references
    for name in references:
        table, _, parent, _ = references[name]
        parents = _parents_by(schema, rows, references[name])
        if None in parents:
            raise BrokenConstraint(("reference", name))
        for row, above in zip(rows.get(table, ()), parents):
            found[name, row] = (parent, above)
    return found


def rows_of(pairs):
    """The dict of rows of some different pairs."""
    rows = {}
    for table, row in pairs:
        rows[table] = rows.get(table, ()) + (row,)
    return rows


class KnownRows:
    """Rows of a database that need no check: a dict from all tables, all pairs, the parents by references and rows.

    Perhaps it has the rows by keys, too: a dict from tables, keys and integers.
    """

    def __init__(self, by_table, all_pairs, parents, by_key=None):
        self.by_table = by_table
        self.all_pairs = all_pairs
        self.parents = parents
        self.by_key = by_key


def known_rows(schema, pairs, parents):
    """The known rows of ascending pairs."""
    found = {table: [] for table in schema.tables}
    for table, row in pairs:
        found[table].append(row)
    return KnownRows({table: tuple(found[table]) for table in found}, tuple(pairs), parents)


def _checked_rows(schema, rows):
    """The known rows of a database of the schema."""
    if not is_rows(schema, rows):
        raise InvalidDatabase("these are no rows of the schema")
    if many_rows(rows) > MAX_ROWS:
        raise TooMany(MAX_ROWS)
    broken_key = _first_broken_key(schema, rows)
    if broken_key is not None:
        raise BrokenConstraint(broken_key)
    parents = _parents_in(schema, rows)
    by_table = {table: tuple(sorted(rows.get(table, ()))) for table in schema.tables}
    return KnownRows(by_table, tuple([(table, row) for table in by_table for row in by_table[table]]), parents)


class Database:
    """Rows of the tables of a schema that break none of its constraints. It never changes."""

    def __init__(self, schema, rows=None):
        # Rows that the package has made itself are not checked again.
        known = rows if isinstance(rows, KnownRows) else _checked_rows(schema, {} if rows is None else rows)
        self._schema = schema
        self._rows = known.by_table
        self._pairs = known.all_pairs
        self._parents = known.parents
        # The rows by keys are found when a row is first added.
        self._by_key = known.by_key

    @classmethod
    def empty(cls, schema):
        """The database without rows."""
        return cls(schema)

    @property
    def schema(self):
        """The schema."""
        return self._schema

    @property
    def rows(self):
        """A dict from all tables to the ascending tuples of their rows."""
        return dict(self._rows)

    def pairs(self):
        """The ascending tuple of the pairs (table, row)."""
        return self._pairs

    def __iter__(self):
        return iter(self._pairs)

    def __getitem__(self, at):
        if at not in self._schema:
            raise UnknownName(at)
        return self._rows[at]

    def __len__(self):
        return len(self._pairs)

    def __contains__(self, x):
        return is_pair(self._schema, x) and x[1] in self._rows[x[0]]

    def __eq__(self, other):
        return isinstance(other, Database) and self._schema == other._schema and self._rows == other._rows

    def __str__(self):
        return f"database of {len(self._pairs)} rows"

    def _check_table(self, table):
        if table not in self._schema:
            raise UnknownName(table)

    def _check_row(self, table, row):
        if (table, row) not in self:
            raise MissingRow(row)

    def _check_other(self, other):
        if not isinstance(other, Database) or other._schema != self._schema:
            raise InvalidOperation("the other value is no database of an equal schema")

    def parent_of(self, reference, row):
        """The parent of a row by a reference."""
        references = self._schema.references
        if not is_name(reference) or reference not in references:
            raise UnknownName(reference)
        self._check_row(references[reference][0], row)
        return self._parents[reference, row][1]

    def pair_above(self, reference, row):
        """The pair (table, row) of the parent, by a reference, of a row that is there."""
        return self._parents[reference, row]

    def children_of(self, table, row):
        """The ascending tuple of the pairs of the rows of which a row is the parent."""
        self._check_table(table)
        self._check_row(table, row)
        references = self._schema.references
        found = [(references[name][0], child) for name, child in self._parents
                 if self._parents[name, child] == (table, row)]
        # A row can be the parent of another one by several references.
        return tuple(sorted(set(found)))

    def _closure(self, pairs):
        """The pairs of the closure of some rows that are there."""
        found = {}
        waiting = list(pairs)
        while waiting:
            pair = waiting.pop()
            if pair not in found:
                found[pair] = True
                names = self._schema.references_of(pair[0])
                waiting.extend([self._parents[name, pair[1]] for name in names])
        return list(found)

    def closure_pairs(self, pairs):
        """The ascending tuple of the pairs of the closure of some rows that are there."""
        return tuple(sorted(self._closure(pairs)))

    def _part(self, pairs):
        """The database of some different pairs of this one, among them all of their parents."""
        names = {table: self._schema.references_of(table) for table in self._rows}
        parents = {(name, row): self._parents[name, row] for table, row in pairs for name in names[table]}
        return Database(self._schema, known_rows(self._schema, sorted(pairs), parents))

    def closure_of(self, *pairs):
        """The database of the closure of some rows."""
        for pair in pairs:
            if not is_pair(self._schema, pair):
                raise InvalidRow("this is no pair of a table and a row of it")
            self._check_row(pair[0], pair[1])
        return self._part(self._closure(pairs))

    def _told_keys(self, table, row):
        """For each key of a table the triple of the table, the key and the integers of a row in it."""
        columns = self._schema.columns_of(table)
        return [(table, key, picked(columns, row, key)) for key in self._schema.keys_of(table)]

    def _rows_by_key(self):
        """A dict from the triples of tables, keys and integers to the rows that have them."""
        if self._by_key is None:
            self._by_key = {told: row for table, row in self._pairs for told in self._told_keys(table, row)}
        return self._by_key

    def _parents_of_more(self, table, row):
        """The parents, by references and the row, of one more row; refused if it would break a reference."""
        found = {}
        columns = self._schema.columns_of(table)
        references = self._schema.references
        for name in self._schema.references_of(table):
            _, mine, parent, key = references[name]
            above = self._rows_by_key().get((parent, key, picked(columns, row, mine)))
            if above is None:
                raise BrokenConstraint(("reference", name))
            found[name, row] = (parent, above)
        return found

    def with_row(self, table, row):
        """The database that has this row, too."""
        if not self._schema.is_row_of(table, row):
            raise InvalidRow("this is no row of the table")
        if (table, row) in self:
            return self
        if len(self._pairs) >= MAX_ROWS:
            raise TooMany(MAX_ROWS)
        by_key = self._rows_by_key()
        keys = self._told_keys(table, row)
        for told in keys:
            if told in by_key:
                raise BrokenConstraint(("key", table, told[1]))
        parents = {**self._parents, **self._parents_of_more(table, row)}
        rows = {**self._rows, table: with_value(self._rows[table], row)}
        more = {**by_key, **{told: row for told in keys}}
        return Database(self._schema, KnownRows(rows, with_value(self._pairs, (table, row)), parents, more))

    def without_single(self, table, row):
        """The database that lacks this row alone, which is there; refused if it is the parent of another one."""
        schema = self._schema
        if any([reference[2] == table for reference in schema.references.values()]):
            broken = [name for name, child in self._parents if self._parents[name, child] == (table, row)]
            if broken:
                raise BrokenConstraint(("reference", min(broken)))
        parents = without_keys(self._parents, [(name, row) for name in schema.references_of(table)])
        rows = {**self._rows, table: without_value(self._rows[table], row)}
        by_key = None if self._by_key is None else without_keys(self._by_key, self._told_keys(table, row))
        return Database(schema, KnownRows(rows, without_value(self._pairs, (table, row)), parents, by_key))

    def without_row(self, table, row):
        """The database that lacks this row and all rows whose closure contains it."""
        self._check_table(table)
        self._check_row(table, row)
        return self._part([pair for pair in self._pairs if (table, row) not in self._closure([pair])])

    def __or__(self, other):
        self._check_other(other)
        more = [pair for pair in other._pairs if pair not in self]
        return Database(self._schema, rows_of([*self._pairs, *more]))

    def _shared(self, other):
        """The pairs of the rows whose closures are rows of the other database."""
        return [pair for pair in self._pairs if all([near in other for near in self._closure([pair])])]

    def __and__(self, other):
        self._check_other(other)
        return self._part(self._shared(other))

    def __sub__(self, other):
        self._check_other(other)
        shared = self._shared(other)
        return self._part(self._closure([pair for pair in self._pairs if pair not in shared]))

    def is_within(self, other):
        """Whether each row is one of the other database."""
        self._check_other(other)
        return all([pair in other for pair in self._pairs])
