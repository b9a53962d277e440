"""Placements: by which rules the rows of each table are dealt out to nodes."""

from dealtrows.base.databases import Database
from dealtrows.base.names import are_names, is_ascending, is_name, is_plain, is_row
from dealtrows.base.schemas import check_schema
from dealtrows.errors import InvalidDatabase, InvalidOperation, InvalidPlacement, InvalidRule, MissingRow, UnknownName

MAX_RULES = 2
ALL = ("all",)
FIRST = ("first",)
_PLAIN_RULES = (("all",), ("any",), ("first",))


def is_rule_of(schema, table, value):
    """Whether the value is a rule of a table of the schema."""
    if not isinstance(value, tuple) or not 1 <= len(value) <= 3:
        return False
    if len(value) == 1:
        return value in _PLAIN_RULES
    if len(value) == 2:
        return value[0] == "with" and is_name(value[1]) and value[1] in schema.references_of(table)
    columns = value[2]
    if value[0] != "by" or not is_name(value[1]) or not are_names(columns) or columns == ():
        return False
    return len(set(columns)) == len(columns) and all([column in schema.columns_of(table) for column in columns])


def are_rules_of(schema, table, value):
    """Whether the value is an ascending tuple of one or two rules of a table, ("all",) alone."""
    if not isinstance(value, tuple) or not 1 <= len(value) <= MAX_RULES:
        return False
    if not all([is_rule_of(schema, table, rule) for rule in value]) or not is_ascending(value):
        return False
    return ALL not in value or len(value) == 1


def arities_of(rules):
    """The ascending tuple of the different pairs of a spread and an arity that stand in some rules."""
    told = [(rule[1], len(rule[2])) for table in rules for rule in rules[table] if rule[0] == "by"]
    return tuple(sorted(set(told)))


def _check_rules(schema, rules):
    """Refuse what are no rules of a placement of the schema."""
    if not isinstance(rules, dict) or len(rules) != len(schema) or not all([table in schema for table in rules]):
        raise InvalidPlacement("the rules are no dict from just the tables")
    if not all([are_rules_of(schema, table, rules[table]) for table in rules]):
        raise InvalidRule("some value is no ascending tuple of one or two rules of its table")
    told = arities_of(rules)
    if len(set([spread for spread, _ in told])) < len(told):
        raise InvalidPlacement("a spread has two arities")


def is_place(value):
    """Whether the value has the form of a place other than ("all",)."""
    if not isinstance(value, tuple) or not is_plain(value):
        return False
    if len(value) != 3:
        return value == FIRST
    return value[0] in ("any", "by") and is_name(value[1]) and is_row(value[2])


def shared_places(found):
    """The places that rows with these tuples of places have; a row that lies everywhere has every place."""
    told = [places for places in found if ALL not in places]
    if not told:
        return (ALL,)
    return tuple([place for place in told[0] if all([place in places for places in told])])


def check_placement(value):
    """Refuse a value that is no placement."""
    if not isinstance(value, Placement):
        raise InvalidPlacement("this is no placement")


def check_database(schema, value):
    """Refuse a value that is no database of an equal schema."""
    if not isinstance(value, Database) or value.schema != schema:
        raise InvalidDatabase("this is no database of an equal schema")


class KnownRules:
    """A schema and the rules of all of its tables, which need no check."""

    def __init__(self, schema, by_table):
        self.of_schema = schema
        self.by_table = by_table


def _checked_rules(schema, rules):
    """The known rules of a placement of the schema."""
    check_schema(schema)
    _check_rules(schema, rules)
    return KnownRules(schema, {table: rules[table] for table in sorted(rules)})


def _way_of(schema, table, rule):
    """A rule as a word, a name, and the places of columns in a row."""
    if rule[0] == "by":
        columns = schema.columns_of(table)
        return (rule[0], rule[1], [columns.index(column) for column in rule[2]])
    return (rule[0], rule[1] if rule[0] == "with" else table, [])


class Placement:
    """The rules of all tables of a schema. It never changes."""

    def __init__(self, schema, **rules):
        # Rules that were checked come with their schema, as tables called schema or self cannot be keywords.
        known = schema if isinstance(schema, KnownRules) else _checked_rules(schema, rules)
        self._schema = known.of_schema
        self._rules = known.by_table
        self._spreads = dict(arities_of(known.by_table))
        self._ways = {table: [_way_of(known.of_schema, table, rule) for rule in known.by_table[table]]
                      for table in known.by_table}

    @classmethod
    def of(cls, schema, rules):
        """The placement with the rules of a dict."""
        return cls(_checked_rules(schema, rules))

    @staticmethod
    def is_rule(schema, table, value):
        """Whether the value is a rule of a table."""
        check_schema(schema)
        if table not in schema:
            raise UnknownName(table)
        return is_rule_of(schema, table, value)

    @property
    def schema(self):
        """The schema."""
        return self._schema

    @property
    def rules(self):
        """A dict from the tables to their rules."""
        return dict(self._rules)

    @property
    def spreads(self):
        """A dict from the spreads to their arities."""
        return dict(self._spreads)

    def __getitem__(self, at):
        if at not in self._schema:
            raise UnknownName(at)
        return self._rules[at]

    def __iter__(self):
        raise TypeError("a placement is not iterated over")

    def with_rules(self, table, *rules):
        """The placement with other rules for a table, passed in any order."""
        if table not in self._schema:
            raise UnknownName(table)
        if not all([is_rule_of(self._schema, table, rule) for rule in rules]):
            raise InvalidRule("some value is no rule of the table")
        return Placement.of(self._schema, {**self._rules, table: tuple(sorted(rules))})

    def _places_found(self, database, table, row):
        """The places of a row that is there, perhaps repeated."""
        found = []
        for word, name, at in self._ways[table]:
            if word == "by":
                found.append((word, name, tuple([row[place] for place in at])))
            elif word == "with":
                parent = database.pair_above(name, row)
                found.extend(self._places_found(database, parent[0], parent[1]))
            elif word == "any":
                found.append((word, table, row))
            else:
                found.append((word,))
        return found

    def places_known(self, database, table, row):
        """The ascending tuple of the places of a row that is there."""
        found = self._places_found(database, table, row)
        return tuple(sorted(set(found))) if len(found) > 1 else tuple(found)

    def places_by_pair(self, database):
        """A dict from the pairs (table, row) of a database of this schema to the ascending tuples of their places."""
        return {(table, row): self.places_known(database, table, row) for table, row in database.pairs()}

    def ways_of(self, table):
        """For each rule of a table its word, its name, and the places of columns in a row."""
        return list(self._ways[table])

    def places_of(self, database, table, row):
        """The ascending tuple of the places of a row."""
        check_database(self._schema, database)
        if table not in self._schema:
            raise UnknownName(table)
        if (table, row) not in database:
            raise MissingRow(row)
        return self.places_known(database, table, row)

    def places_in(self, database):
        """The ascending tuple of the places of all rows."""
        check_database(self._schema, database)
        found = self.places_by_pair(database)
        return tuple(sorted(set([place for pair in found for place in found[pair]])))

    def common_places(self, database, *pairs):
        """The ascending tuple of the places that all these rows have; a row that lies everywhere has every place."""
        check_database(self._schema, database)
        found = []
        for pair in pairs:
            if not isinstance(pair, tuple) or len(pair) != 2:
                raise InvalidOperation("this is no pair of a table and a row")
            found.append(self.places_of(database, pair[0], pair[1]))
        return shared_places(found)

    def is_within(self, other):
        """Whether each rule is one of the other placement, for the same table."""
        if not isinstance(other, Placement) or other._schema != self._schema:
            raise InvalidOperation("the other value is no placement of an equal schema")
        return all([rule in other._rules[table] for table in self._rules for rule in self._rules[table]])

    def __len__(self):
        return len([rule for table in self._rules for rule in self._rules[table]])

    def __eq__(self, other):
        return isinstance(other, Placement) and self._schema == other._schema and self._rules == other._rules

    def __str__(self):
        return f"placement of {len(self._rules)} tables, {len(self._spreads)} spreads"
