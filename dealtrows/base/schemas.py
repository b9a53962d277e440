"""Schemas: tables with columns, keys and references."""

from dealtrows.base.names import are_integers, are_names, is_ascending, is_name
from dealtrows.errors import InvalidOperation, InvalidSchema, UnknownName

MAX_TABLES = 5
MAX_COLUMNS = 4
MAX_KEYS = 2
MAX_REFERENCES = 4


def _are_columns(value):
    """Whether the value can be the columns of a table."""
    return are_names(value) and 1 <= len(value) <= MAX_COLUMNS and (len(value) == 1 or is_ascending(value))


def _are_tables(value):
    if not isinstance(value, dict) or not 1 <= len(value) <= MAX_TABLES or not are_names(tuple(value)):
        return False
    for table in value:
        if not _are_columns(value[table]):
            return False
    return True


def _is_key_of(columns, value):
    """Whether the value is a key of a table with these columns."""
    if not isinstance(value, tuple) or not value:
        return False
    # Columns are names, so that what is one of them needs no other check.
    for column in value:
        if column not in columns:
            return False
    return len(value) == 1 or is_ascending(value)


def _are_keys_of(columns, value):
    """Whether the value can be the keys of a table with these columns."""
    if not isinstance(value, tuple) or not 1 <= len(value) <= MAX_KEYS:
        return False
    for key in value:
        if not _is_key_of(columns, key):
            return False
    return len(value) == 1 or value[0] < value[1]


def _are_keys(tables, value):
    if not isinstance(value, dict):
        return False
    for table in value:
        if not isinstance(table, str) or table not in tables or not _are_keys_of(tables[table], value[table]):
            return False
    return True


def _is_reference(tables, keys, value):
    if not isinstance(value, tuple) or len(value) != 4:
        return False
    table, columns, parent, key = value
    if not isinstance(table, str) or table not in tables or not isinstance(parent, str) or parent not in tables:
        return False
    if table == parent or not isinstance(columns, tuple) or key not in keys.get(parent, ()):
        return False
    for column in columns:
        if column not in tables[table]:
            return False
    return len(columns) == len(key) and (len(columns) == 1 or len(set(columns)) == len(columns))


def _are_references(tables, keys, value):
    if not isinstance(value, dict) or len(value) > MAX_REFERENCES or not are_names(tuple(value)):
        return False
    for name in value:
        if not _is_reference(tables, keys, value[name]):
            return False
    return not _lead_round([(value[name][0], value[name][2]) for name in value])


def _lead_round(steps):
    """Whether some way along pairs of tables leads back to its beginning."""
    left = steps
    many = len(left) + 1
    # Steps to tables from which no step leads are on no way round.
    while many > len(left):
        many = len(left)
        starts = [table for table, _ in left]
        left = [step for step in left if step[1] in starts]
    return many > 0


def _reached(references, table):
    """The tables to which a way along one or more references leads from this table."""
    found = []
    waiting = [table]
    while waiting:
        start = waiting.pop()
        for reference in references.values():
            if reference[0] == start and reference[2] not in found:
                found.append(reference[2])
                waiting.append(reference[2])
    return found


def _many(keys):
    return sum([len(keys[table]) for table in keys])


def check_schema(value):
    """Refuse a value that is no schema."""
    if not isinstance(value, Schema):
        raise InvalidSchema("this is no schema")


def _places_of(columns, wanted):
    """The places of the wanted columns among those of a table."""
    return tuple([columns.index(column) for column in wanted])


def picked(columns, values, wanted):
    """Of values, one for each column, those for the wanted columns, in their order."""
    return tuple([values[columns.index(column)] for column in wanted])


class Schema:
    """Tables with columns, keys and references. It never changes."""

    def __init__(self, tables, *, keys=None, references=None):
        all_keys = {} if keys is None else keys
        all_references = {} if references is None else references
        if not _are_tables(tables):
            raise InvalidSchema("the tables are no dict from one to five names to columns")
        if not _are_keys(tables, all_keys):
            raise InvalidSchema("the keys are no dict from tables to one or two keys of theirs")
        if not _are_references(tables, all_keys, all_references):
            raise InvalidSchema("the references are no dict from names to references to keys, or lead round")
        self._tables = {table: tables[table] for table in sorted(tables)}
        self._keys = {table: all_keys[table] for table in sorted(all_keys)}
        self._references = {name: all_references[name] for name in sorted(all_references)}
        # Places of columns are found when they are first asked for, once for each table.
        self._places_by_table = {}
        self._steps_by_table = {}

    @property
    def tables(self):
        """A dict from the tables to their columns."""
        return dict(self._tables)

    @property
    def references(self):
        """A dict from the names of the references to (table, columns, parent, key)."""
        return dict(self._references)

    def _check_table(self, table):
        if table not in self:
            raise UnknownName(table)

    def columns_of(self, table):
        """The tuple of the columns of a table."""
        if isinstance(table, str) and table in self._tables:
            return self._tables[table]
        raise UnknownName(table)

    def keys_of(self, table):
        """The ascending tuple of the keys of a table."""
        if isinstance(table, str) and table in self._tables:
            return self._keys.get(table, ())
        raise UnknownName(table)

    def references_of(self, table):
        """The ascending tuple of the names of the references that lead from a table."""
        if not isinstance(table, str) or table not in self._tables:
            raise UnknownName(table)
        return tuple([name for name in self._references if self._references[name][0] == table])

    def key_places(self, table):
        """For each key of a table that is there the pair of the key and the places of its columns."""
        if table not in self._places_by_table:
            columns, keys = self._tables[table], self._keys.get(table, ())
            self._places_by_table[table] = tuple([(key, _places_of(columns, key)) for key in keys])
        return self._places_by_table[table]

    def _step_by(self, name):
        """A step along a reference."""
        table, columns, parent, key = self._references[name]
        return (name, _places_of(self._tables[table], columns), parent, key, _places_of(self._tables[parent], key))

    def steps_of(self, table):
        """For each reference of a table that is there its step.

        That is its name, the places of its columns, the parent table, the key, and the places of its columns.
        """
        if table not in self._steps_by_table:
            self._steps_by_table[table] = tuple([self._step_by(name) for name in self.references_of(table)])
        return self._steps_by_table[table]

    def is_row_of(self, table, value):
        """Whether the value is a row of a table."""
        if not isinstance(table, str) or table not in self._tables:
            raise UnknownName(table)
        return are_integers(value) and len(value) == len(self._tables[table])

    def leads_to(self, table, other):
        """Whether a way along one or more references leads from the first table to the other one."""
        self._check_table(table)
        self._check_table(other)
        return bool(self._references) and other in _reached(self._references, table)

    def without_key(self, table, columns):
        """The schema without a key of a table."""
        if columns not in self.keys_of(table):
            raise InvalidOperation("this is no key of the table")
        if any([target[2:] == (table, columns) for target in self._references.values()]):
            raise InvalidOperation("a reference leads to this key")
        left = tuple([key for key in self._keys[table] if key != columns])
        keys = {name: self._keys[name] for name in self._keys if name != table}
        if left:
            keys[table] = left
        return Schema(self._tables, keys=keys, references=self._references)

    def without_reference(self, name):
        """The schema without a reference."""
        if not is_name(name) or name not in self._references:
            raise UnknownName(name)
        left = {other: self._references[other] for other in self._references if other != name}
        return Schema(self._tables, keys=self._keys, references=left)

    def __contains__(self, x):
        return isinstance(x, str) and x in self._tables

    def __len__(self):
        return len(self._tables)

    def __eq__(self, other):
        return (isinstance(other, Schema) and self._tables == other._tables and self._keys == other._keys
                and self._references == other._references)

    def __str__(self):
        return f"schema of {len(self._tables)} tables, {_many(self._keys)} keys, {len(self._references)} references"
