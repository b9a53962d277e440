"""Templates: the rows of terms that the closure of each open match of a clause has.

A line is a row of terms, a pair (table, terms). New symbols are strings of digits,
so that they are variables too, and have the name of none.
"""

from dealtrows.ask.terms import is_variable, terms_of_parts


def _without_repeats(lines):
    """The different lines, in their order."""
    return list({line: True for line in lines})


def _at(terms, places):
    """The terms at some places."""
    return tuple([terms[place] for place in places])


class Chase:
    """Lines on their way to a template, and the terms that the variables have become."""

    def __init__(self, schema, clause):
        self._schema = schema
        self._lines = _without_repeats(clause.parts)
        self._terms = {name: name for name in clause.variables}
        self._many = 0
        self._fails = False
        # The line that has these terms in a key of a table.
        self._by_key = {}

    def _merge(self, one, other):
        """Make two terms one."""
        if one == other:
            return
        if not is_variable(one) and not is_variable(other):
            self._fails = True
            return
        old, new = (one, other) if is_variable(one) else (other, one)
        self._lines = _without_repeats([
            (table, tuple([new if term == old else term for term in terms])) for table, terms in self._lines])
        self._terms = {name: new if self._terms[name] == old else self._terms[name] for name in self._terms}

    def _term(self, term):
        """What a term of a test has become."""
        return self._terms[term] if is_variable(term) else term

    def _clash_of(self, line):
        """Take up the keys of a line: two different terms of lines with the same terms in a key, or None."""
        table, terms = line
        for key, places in list(self._schema.key_places(table)):
            other = self._by_key.setdefault((table, key, _at(terms, places)), line)
            if other != line:
                return [pair for pair in zip(other[1], terms) if pair[0] != pair[1]][0]
        return None

    def _clash(self):
        """Two different terms of some lines with the same terms in a key, or None."""
        self._by_key = {}
        for line in list(self._lines):
            found = self._clash_of(line)
            if found is not None:
                return found
        return None

    def parent_line(self, line, step):
        """The line that is the parent of a line by a step along a reference, or None."""
        _, places, parent, key, _ = step
        return self._by_key.get((parent, key, _at(line[1], places)))

    def _new_parent(self, line, step):
        """The parent of a line by a step, with new symbols in the columns outside the key."""
        _, places, parent, _, key_places = step
        told = dict(zip(key_places, _at(line[1], places)))
        terms = []
        for place in range(len(self._schema.columns_of(parent))):
            if place not in told:
                self._many += 1
                told[place] = str(self._many)
            terms.append(told[place])
        return (parent, tuple(terms))

    def _add_parents(self):
        """Add the parents that lines lack: two different terms that must become one, or None."""
        at = 0
        while at < len(self._lines):
            line = self._lines[at]
            for step in list(self._schema.steps_of(line[0])):
                if self.parent_line(line, step) is None:
                    made = self._new_parent(line, step)
                    self._lines = [*self._lines, made]
                    found = self._clash_of(made)
                    if found is not None:
                        return found
            at += 1
        return None

    def _step(self):
        """Make terms one or add parents, and tell whether there can be more to do."""
        clash = self._clash()
        if clash is None:
            clash = self._add_parents()
        if clash is not None:
            self._merge(clash[0], clash[1])
        return clash is not None and not self._fails

    def result(self, clause):
        """The terms of the template, or None if there is none."""
        for one, word, other in clause.tests:
            if word == "=":
                self._merge(self._term(one), self._term(other))
        while not self._fails and self._step():
            pass
        same = [test for test in clause.tests if test[1] == "!=" and self._term(test[0]) == self._term(test[2])]
        return None if self._fails or same else self._terms


class Template:
    """The lines of a clause, in the order of the document, and the terms of its variables.

    First come the parts, then the parents of each line, each line once.
    """

    def __init__(self, schema, chase, terms, parts):
        lines = _without_repeats(parts)
        where = {line: at for at, line in enumerate(lines)}
        above = []
        at = 0
        while at < len(lines):
            line = lines[at]
            for step in list(schema.steps_of(line[0])):
                parent = chase.parent_line(line, step)
                if parent not in where:
                    where[parent] = len(lines)
                    lines.append(parent)
                above.append((at, step[0], where[parent]))
            at += 1
        self._lines = lines
        self._above = above
        self._terms = terms
        self._parts = [where[part] for part in parts]
        self._symbols = tuple(_without_repeats([term for term in terms_of_parts(lines) if is_variable(term)]))

    def lines(self):
        """The list of the lines."""
        return list(self._lines)

    def part_places(self):
        """The list of the places of the parts among the lines."""
        return list(self._parts)

    def above(self):
        """The list of triples of the place of a line, a reference, and the place of the parent by it."""
        return list(self._above)

    def symbols(self):
        """The tuple of the variables and symbols, in the order in which they first stand in the lines."""
        return self._symbols

    def term_of(self, term):
        """What a term of the clause has become."""
        return self._terms[term] if is_variable(term) else term


def template_of(schema, clause):
    """The template of a clause, or None if it has none."""
    chase = Chase(schema, clause)
    terms = chase.result(clause)
    if terms is None:
        return None
    parts = [(table, tuple([terms[term] if is_variable(term) else term for term in told]))
             for table, told in clause.parts]
    return Template(schema, chase, terms, parts)
