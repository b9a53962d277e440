"""Drafts: templates of clauses whose symbols are given values.

What symbols are given is a tuple: first the named integers of the query, then a
value for each symbol of the template. The terms of a draft are places in it.
"""

from dealtrows.ask.joins import values_of
from dealtrows.ask.terms import is_variable
from dealtrows.base.databases import Database, known_rows
from dealtrows.decide.folds import folds_of, holds

_STEP = 100000


def bound_of(query):
    """One more than the greatest absolute value of the integers of a query, summed ones too."""
    summed = [clause.summed for clause in query.clauses if clause.summed is not None]
    told = [*query.integers, *[term for term in summed if not is_variable(term)]]
    return max([0, *[abs(number) for number in told]]) + 1


def _fresh_values(query, many):
    """The values of so many classes without an integer."""
    found = []
    value = bound_of(query)
    for _ in range(many):
        value = value * _STEP
        found.append(value)
    return tuple(found)


def _values_at(places, values):
    """The tuple of the values at some places."""
    return tuple([values[place] for place in places])


class Draft:
    """A template of a clause of a query, made ready to be given values."""

    def __init__(self, query, index, template):
        self.of_clause = index
        self._clauses = query.clauses
        self._schema = query.schema
        self._clause = query.clauses[index]
        self._integers = query.integers
        self._symbols = template.symbols()
        self._fresh = _fresh_values(query, len(self._symbols))
        at = {term: place for place, term in enumerate([*self._integers, *self._symbols])}
        self.line_terms = [(table, [at[term] for term in terms]) for table, terms in template.lines()]
        self.part_lines = template.part_places()
        self.parent_lines = template.above()
        self._match = [(name, at[template.term_of(name)]) for name in self._clause.variables]
        tests = [(at[template.term_of(low)], at[template.term_of(high)])
                 for low, word, high in self._clause.tests if word == "!="]
        self._rules = self._rules_by_symbol(tests, self._clashes())
        # Folds are found when ties are first asked for.
        self._folded = None

    def _clashes(self):
        """Pairs of places in keys and places in rows of two lines: rows with an equal key are equal."""
        found = []
        for at, (table, one) in enumerate(self.line_terms):
            for other in [terms for name, terms in self.line_terms[:at] if name == table]:
                for _, where in self._schema.key_places(table):
                    found.append(([(one[place], other[place]) for place in where], list(zip(one, other))))
        return found

    def _rules_by_symbol(self, tests, clashes):
        """For each symbol the tests and the clashes of which it is the last symbol."""
        least = len(self._integers)
        told = [(max(test), [], [test]) for test in tests]
        told.extend([(max([place for pair in both for place in pair]), key, both) for key, both in clashes])
        # Integers alone keep all of these in each template.
        return [[(key, both) for last, key, both in told if last == at]
                for at in range(least, least + len(self._symbols))]

    def _is_kept(self, rules, values):
        """Whether values keep some rules: unequal terms of a test, equal rows where keys are equal."""
        for key, both in rules:
            if not key:
                if values[both[0][0]] == values[both[0][1]]:
                    return False
            elif all([values[low] == values[high] for low, high in key]):
                if not all([values[low] == values[high] for low, high in both]):
                    return False
        return True

    def valuations(self):
        """The pairs of values with which the draft is a pattern and the number of classes without an integer."""
        integers, fresh = self._integers, self._fresh
        waiting = [(integers, 0)]
        while waiting:
            values, used = waiting.pop()
            at = len(values) - len(integers)
            if at == len(fresh):
                yield (values, used)
            else:
                # A symbol is given what is given so far, or the value of a class of its own.
                more = [(values + (number,), used) for number in [*integers, *fresh[:used]]]
                more.append((values + (fresh[used],), used + 1))
                if self._rules[at]:
                    more = [told for told in more if self._is_kept(self._rules[at], told[0])]
                # The last one is taken first.
                waiting.extend(more[::-1])

    def _folds(self):
        """The folds into the lines."""
        if self._folded is None:
            integers = {number: place for place, number in enumerate(self._integers)}
            self._folded = folds_of(self._clauses, self.line_terms, integers)
        return self._folded

    def tied_places(self):
        """The different pairs of a kind of ties and tied places that ties of patterns can have."""
        return list({told: True for _, _, tied in self._folds() for told in tied})

    def ties_with(self, values):
        """The different pairs of a kind and integers that the ties of the pattern with these values have."""
        kept = [tied for equal, unequal, tied in self._folds() if holds(equal, unequal, values)]
        return list({(kind, tuple([values[at] for at in places])): True for tied in kept for kind, places in tied})

    def pairs_with(self, values):
        """The pairs (table, row) that the lines become, perhaps repeated."""
        return [(table, _values_at(places, values)) for table, places in self.line_terms]

    def match_with(self, values):
        """The open match."""
        return {name: values[place] for name, place in self._match}

    def fresh_values(self, used):
        """The ascending tuple of the values of so many classes without an integer."""
        return self._fresh[:used]

    def parents_with(self, pairs):
        """The parents, by references and rows, of the pairs that the lines become."""
        return {(name, pairs[child][1]): pairs[line] for child, name, line in self.parent_lines}

    def database_with(self, pairs):
        """The database of the pairs that the lines become."""
        return Database(self._schema, known_rows(self._schema, sorted(set(pairs)), self.parents_with(pairs)))

    def _rows_of(self, database, match):
        """The pairs of an open match and its closure, one for each line."""
        found = {}
        for (table, terms), line in zip(self._clause.parts, self.part_lines):
            found[line] = (table, values_of(terms, match))
        for child, name, line in self.parent_lines:
            if line not in found:
                found[line] = database.pair_above(name, found[child][1])
        return [found[line] for line in range(len(self.line_terms))]

    def values_of_match(self, database, match):
        """The values of the pattern of an open match, how many classes there are, and the integers by values."""
        named, fresh = self._integers, self._fresh
        told = {}
        for (_, places), (_, row) in zip(self.line_terms, self._rows_of(database, match)):
            told.update(dict(zip(places, row)))
        numbers = [told[place] for place in range(len(named), len(named) + len(fresh))]
        new = list({number: True for number in numbers if number not in named})
        value_by_number = {**{number: number for number in named}, **dict(zip(new, fresh))}
        values = named + tuple([value_by_number[number] for number in numbers])
        return (values, len(new), {value_by_number[number]: number for number in value_by_number})
