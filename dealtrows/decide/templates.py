"""Templates: the rows of terms that the closure of each open match of a clause has.

A line is a row of terms, a pair (table, terms). New symbols are strings of digits,
so that they are variables too, and have the name of none.
"""

from dealtrows.ask.terms import is_variable, terms_of_parts
from dealtrows.base.schemas import picked


def _without_repeats(lines):
    """The different lines, in their order."""
    return list({line: True for line in lines})


def _terms_at(schema, line, columns):
    """The terms of a line in some columns of its table."""
    return picked(schema.columns_of(line[0]), line[1], columns)


def parent_line(schema, lines, line, reference):
    """The line that is the parent of a line by a reference, or None."""
    _, columns, parent, key = reference
    wanted = _terms_at(schema, line, columns)
    for other in lines:
        if other[0] == parent and _terms_at(schema, other, key) == wanted:
            return other
    return None


class Chase:
    """Lines on their way to a template, and the terms that the variables have become."""

    def __init__(self, schema, clause):
        self._schema = schema
        self._lines = _without_repeats(clause.parts)
        self._terms = {name: name for name in clause.variables}
        self._many = 0
        self._fails = False

    def _merge(self, one, other):
        """Make two terms one."""
        if one == other:
            return
        if not is_variable(one) and not is_variable(other):
            self._fails = True
            return
        old, new = (one, other) if is_variable(one) else (other, one)
        self._lines = _without_repeats([
            (table, tuple([new if term == old else term for term in terms])) for table, terms in self._lines])
        self._terms = {name: new if self._terms[name] == old else self._terms[name] for name in self._terms}

    def _term(self, term):
        """What a term of a test has become."""
        return self._terms[term] if is_variable(term) else term

    def _clash(self):
        """Two different terms of lines with the same terms in a key, or None."""
        seen = {}
        for line in self._lines:
            for key in self._schema.keys_of(line[0]):
                other = seen.setdefault((line[0], key, _terms_at(self._schema, line, key)), line)
                if other != line:
                    return [pair for pair in zip(other[1], line[1]) if pair[0] != pair[1]][0]
        return None

    def _orphan(self):
        """A line and a reference by which it has no parent, or None."""
        references = self._schema.references
        for line in self._lines:
            for name in self._schema.references_of(line[0]):
                if parent_line(self._schema, self._lines, line, references[name]) is None:
                    return (line, references[name])
        return None

    def _add_parent(self, line, reference):
        """Add the parent of a line, with new symbols in the columns outside the key."""
        _, columns, parent, key = reference
        told = dict(zip(key, _terms_at(self._schema, line, columns)))
        terms = []
        for column in self._schema.columns_of(parent):
            if column not in told:
                self._many += 1
                told[column] = str(self._many)
            terms.append(told[column])
        self._lines = [*self._lines, (parent, tuple(terms))]

    def _step(self):
        """Do one step, and tell whether there was one to do."""
        clash = self._clash()
        if clash is not None:
            self._merge(clash[0], clash[1])
            return not self._fails
        orphan = self._orphan()
        if orphan is not None:
            self._add_parent(orphan[0], orphan[1])
        return orphan is not None

    def result(self, clause):
        """The lines and the terms of the template, or None if there is none."""
        for one, word, other in clause.tests:
            if word == "=":
                self._merge(self._term(one), self._term(other))
        while not self._fails and self._step():
            pass
        same = [test for test in clause.tests if test[1] == "!=" and self._term(test[0]) == self._term(test[2])]
        return None if self._fails or same else (self._lines, self._terms)


def _listed(schema, lines, parts):
    """The lines in the order of the document, and triples of a line, a reference and the parent by it, as places.

    First come the parts, then the parents of each line, each line once.
    """
    found = _without_repeats(parts)
    references = schema.references
    above = []
    at = 0
    while at < len(found):
        for name in schema.references_of(found[at][0]):
            parent = parent_line(schema, lines, found[at], references[name])
            if parent not in found:
                found = [*found, parent]
            above.append((at, name, found.index(parent)))
        at += 1
    return (found, above)


class Template:
    """The lines of a clause, in the order of the document, and the terms of its variables."""

    def __init__(self, schema, lines, terms, parts):
        self._lines, self._above = _listed(schema, lines, parts)
        self._terms = terms
        self._parts = [self._lines.index(part) for part in parts]
        told = [term for term in terms_of_parts(self._lines) if is_variable(term)]
        self._symbols = tuple(_without_repeats(told))

    def lines(self):
        """The list of the lines."""
        return list(self._lines)

    def part_places(self):
        """The list of the places of the parts among the lines."""
        return list(self._parts)

    def above(self):
        """The list of triples of the place of a line, a reference, and the place of the parent by it."""
        return list(self._above)

    def symbols(self):
        """The tuple of the variables and symbols, in the order in which they first stand in the lines."""
        return self._symbols

    def term_of(self, term):
        """What a term of the clause has become."""
        return self._terms[term] if is_variable(term) else term


def template_of(schema, clause):
    """The template of a clause, or None if it has none."""
    found = Chase(schema, clause).result(clause)
    if found is None:
        return None
    lines, terms = found
    parts = [(table, tuple([terms[term] if is_variable(term) else term for term in told]))
             for table, told in clause.parts]
    return Template(schema, lines, terms, parts)
