"""Searches for the open matches of a clause.

Terms that tests make equal are taken as one. The variables then get their
integers level by level, a level being variables that stand in the same parts.
Those that stand in several parts, or in tests between parts, come first, as
they rule out most; behind them each part has integers of its own, so that open
matches can be counted without being listed.
"""

from dealtrows.ask.terms import is_variable, terms_made_one
from dealtrows.errors import TooMany


def _are_unequal(tests, known):
    """Whether the two terms of each test are unequal."""
    return all([known.get(one, one) != known.get(other, other) for one, other in tests])


def _cells(terms, told):
    """For each of some terms its place among the terms of a part, or None and its integer."""
    return [(terms.index(term), 0) if term in terms else (None, term) for term in told]


def _values_at(cells, row):
    """The tuple of the integers of cells in a row."""
    return tuple([number if place is None else row[place] for place, number in cells])


class Filter:
    """Which rows fit a part, by its terms and by tests of terms of it."""

    def __init__(self, terms, tests):
        self._fixed = [(place, term) for place, term in enumerate(terms) if not is_variable(term)]
        self._twins = [(place, terms.index(term)) for place, term in enumerate(terms) if term in terms[:place]]
        self._tests = [_cells(terms, test) for test in tests]

    def _fits(self, row):
        """Whether a row fits."""
        if not all([row[place] == number for place, number in self._fixed]):
            return False
        if not all([row[place] == row[other] for place, other in self._twins]):
            return False
        told = [_values_at(cells, row) for cells in self._tests]
        return all([low != high for low, high in told])

    def fitting(self, rows):
        """The list of those of some rows that fit."""
        if not self._fixed and not self._twins and not self._tests:
            return list(rows)
        return [row for row in rows if self._fits(row)]


def _is_kept(kept, known):
    """Whether what is known is kept: by triples of terms, a dict of tuples of integers, and whether these are kept."""
    return all([(tuple([known.get(term, term) for term in terms]) in there) == wanted for terms, there, wanted in kept])


def _is_within(test, terms):
    """Whether the variables of a test, or of other terms, stand among the terms of a part."""
    return all([term in terms or not is_variable(term) for term in test])


def _stands(parts):
    """For each variable the tuple of the indices of the parts in which it stands."""
    found = {}
    for at, (_, terms) in enumerate(parts):
        for term in terms:
            if is_variable(term) and at not in found.get(term, ()):
                found[term] = found.get(term, ()) + (at,)
    return found


def _product(numbers):
    """The numbers multiplied."""
    found = 1
    for number in numbers:
        found = found * number
    return found


class Branch:
    """Rows of a part that agree so far: how many, what they give, and the branches by the next integers."""

    def __init__(self, gives):
        self.size = 0
        self.gives = gives
        self.below = {}

    def branch_by(self, values, gives):
        """The branch by the next integers, made if there is none."""
        found = self.below.get(values)
        if found is None:
            found = Branch({name: values[index] for name, index in gives})
            self.below[values] = found
        return found


class Search:
    """A clause that is made ready to be looked for in rows.

    It tells the integers of all variables, or of those that are named and perhaps more.
    """

    def __init__(self, clause, told=None):
        self._one = terms_made_one(clause)
        self._parts = []
        self._levels = []
        self._is_sorted = told is None
        self._free = 0
        if self._one is not None:
            self._take_parts(clause)
            self._take_levels(told)

    def _take_parts(self, clause):
        """Take the parts, and the tests between parts and within each part."""
        one = self._one
        self._parts = [(table, [one.get(term, term) for term in terms]) for table, terms in clause.parts]
        tests = [(one.get(low, low), one.get(high, high)) for low, word, high in clause.tests if word == "!="]
        inner = [[test for test in tests if _is_within(test, terms)] for _, terms in self._parts]
        self._filters = [Filter(terms, told) for (_, terms), told in zip(self._parts, inner)]
        self._outer = [test for test in tests if not any([test in told for told in inner])]
        # All variables stand here from the start, so that the dicts of matches have them in their order.
        self._base = {name: 0 if is_variable(one[name]) else one[name] for name in clause.variables}

    def _take_levels(self, told):
        """Put the variables into levels: (variables, parts, what they give, tests that can be made then)."""
        stands = _stands(self._parts)
        tested = [term for test in self._outer for term in test]
        first = sorted([name for name in stands if len(stands[name]) > 1 or name in tested])
        last = sorted([name for name in stands if name not in first])
        self._is_sorted = self._is_sorted and not first
        if told is not None:
            wanted = [self._one[name] for name in told]
            last = [name for name in last if name in wanted]
        if not self._is_sorted:
            last = sorted(last, key=lambda name: (stands[name], name))
        groups = []
        for name in [*first, *last]:
            if groups and stands[groups[-1][-1]] == stands[name]:
                groups[-1].append(name)
            else:
                groups.append([name])
        seen, levels = [], []
        for names in list(groups):
            seen = [*seen, *names]
            gives = [(name, names.index(self._one[name])) for name in self._base if self._one[name] in names]
            tests = [test for test in self._outer if any([term in names for term in test]) and _is_within(test, seen)]
            levels.append((names, stands[names[0]], gives, tests))
        self._levels = levels
        self._free = self._first_free()
        self._steps_of = [self._steps_in(at) for at in range(len(self._parts))]

    def _steps_in(self, at):
        """For each level in which a part stands the places of its variables, and what they give."""
        terms = self._parts[at][1]
        return [([terms.index(name) for name in level[0]], level[2]) for level in self._levels if at in level[1]]

    def _first_free(self):
        """The index of the level from which on each one is the only one of a part, and has no tests."""
        parts = []
        at = len(self._levels)
        while at > 0:
            _, where, _, tests = self._levels[at - 1]
            if len(where) > 1 or tests or where[0] in parts:
                return at
            parts.append(where[0])
            at -= 1
        return at

    def _kept_rows(self, at, rows, kept):
        """The list of the rows that fit a part and are kept."""
        table, terms = self._parts[at]
        found = self._filters[at].fitting(rows.get(table, ()))
        for told, there, wanted in kept:
            if _is_within(told, terms):
                cells = _cells(terms, told)
                found = [row for row in found if (_values_at(cells, row) in there) == wanted]
        return found

    def _tree(self, at, rows, kept):
        """The branches of the rows that fit a part and are kept, or None if there are none."""
        found = self._kept_rows(at, rows, kept)
        steps = self._steps_of[at]
        keys = [[tuple([row[place] for place in places]) for places, _ in steps] for row in found]
        root = Branch({})
        for key in sorted(keys) if self._is_sorted else keys:
            branch = root
            branch.size += 1
            for (_, gives), values in zip(steps, key):
                branch = branch.branch_by(values, gives)
                branch.size += 1
        return root if keys else None

    def _trees(self, rows, kept):
        """The branches of all parts, or None if there is no open match."""
        if self._one is None:
            return None
        found = []
        for at in range(len(self._parts)):
            tree = self._tree(at, rows, kept)
            if tree is None:
                return None
            found.append(tree)
        return found

    def _steps(self, at, branches, known):
        """What can be known behind a level, each with the branches that are left."""
        _, where, _, tests = self._levels[at]
        first = branches[where[0]].below
        found = []
        for values in first:
            if len(where) == 1 or all([values in branches[part].below for part in where]):
                more = {**known, **first[values].gives}
                if not tests or _are_unequal(tests, more):
                    left = list(branches)
                    for part in where:
                        left[part] = branches[part].below[values]
                    found.append((more, left))
        return found

    def _take(self, at, branches, known, found, limit):
        """Put what is known before the free levels into the found pairs, and return how many open matches that makes.

        It stops when there are more than the limit.
        """
        if at == self._free:
            found.append((known, branches))
            return _product([branch.size for branch in branches])
        total = 0
        for more, left in self._steps(at, branches, known):
            total += self._take(at + 1, left, more, found, limit - total)
            if total > limit:
                break
        return total

    def _states(self, rows, kept, limit):
        """Pairs of what is known before the free levels and the branches that are left."""
        trees = self._trees(rows, kept)
        found = []
        if trees is not None and self._take(0, trees, self._base, found, limit) > limit:
            raise TooMany(limit)
        return found

    def _told_by(self, known, branches):
        """The list of the open matches behind what is known before the free levels."""
        found = [dict(known)]
        for _, where, _, _ in self._levels[self._free:]:
            options = [branch.gives for branch in branches[where[0]].below.values()]
            found = [told | gives for told in found for gives in options]
        return found

    def listed(self, rows, kept, limit):
        """The list of the open matches in some rows that are kept, ascending by their integers.

        What is kept is told by triples: terms, a dict of tuples of their integers, and whether these are kept.
        """
        if self._one is None:
            return []
        told = [([self._one.get(term, term) for term in terms], there, wanted) for terms, there, wanted in kept]
        states = self._states(rows, told, limit)
        found = []
        for known, branches in states:
            found.extend(self._told_by(known, branches))
        # Rows of one part cannot tell what is kept by the variables of several ones.
        outer = [one for one in told if not any([_is_within(one[0], terms) for _, terms in self._parts])]
        if outer:
            found = [match for match in found if _is_kept(outer, match)]
        # Without levels before the free ones the matches come in this order.
        return found if self._is_sorted else sorted(found, key=lambda match: tuple(match.values()))

    def _weighed_by(self, known, branches):
        """Pairs of what is known behind all levels, and of how many open matches have it."""
        where = [level[1][0] for level in self._levels[self._free:]]
        found = [(known, _product([branch.size for at, branch in enumerate(branches) if at not in where]))]
        for part in where:
            options = list(branches[part].below.values())
            found = [({**told, **branch.gives}, many * branch.size) for told, many in found for branch in options]
        return found

    def weighed(self, rows, limit):
        """Pairs of what is known and of how many open matches in some rows have it."""
        states = self._states(rows, (), limit)
        return [pair for known, branches in states for pair in self._weighed_by(known, branches)]

    def check_many(self, rows, limit):
        """Refuse rows with more open matches than the limit."""
        self._states(rows, (), limit)
