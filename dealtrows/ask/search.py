"""Searches for the open matches of a clause.

Terms that tests make equal are taken as one. The variables then get their
integers level by level, a level being variables that stand in the same parts.
Those that stand in several parts, or in tests between parts, come first, as
they rule out most; behind them each part has integers of its own, so that open
matches can be counted without being listed.
"""

from dealtrows.ask.terms import is_variable
from dealtrows.errors import TooMany


def _terms_made_one(clause):
    """The term that each variable is by the tests, or None if two integers would be one."""
    told = {name: name for name in clause.variables}
    for one, word, other in clause.tests:
        low, high = told.get(one, one), told.get(other, other)
        if word == "=" and low != high:
            new, old = (low, high) if is_variable(high) else (high, low)
            if not is_variable(old):
                return None
            # The first of equal variables stands for both, so that matches still ascend by all of them.
            if is_variable(new) and old < new:
                new, old = old, new
            told = {name: new if told[name] == old else told[name] for name in told}
    return told


def _are_unequal(tests, known):
    """Whether the two terms of each test are unequal."""
    return all([known.get(one, one) != known.get(other, other) for one, other in tests])


def _known_by(terms, tests, row):
    """The integers that a row gives to the variables among some terms, or None if it does not fit."""
    known = {}
    for term, number in zip(terms, row):
        if (known.setdefault(term, number) if is_variable(term) else term) != number:
            return None
    if tests and not _are_unequal(tests, known):
        return None
    return known


def _is_within(test, terms):
    """Whether the variables of a test stand among the terms of a part."""
    return all([term in terms or not is_variable(term) for term in test])


def _stands(parts):
    """For each variable the tuple of the indices of the parts in which it stands."""
    found = {}
    for at, (_, terms) in enumerate(parts):
        for term in terms:
            if is_variable(term) and at not in found.get(term, ()):
                found[term] = found.get(term, ()) + (at,)
    return found


def _product(numbers):
    """The numbers multiplied."""
    found = 1
    for number in numbers:
        found = found * number
    return found


class Branch:
    """Rows of a part that agree so far: how many, what they give, and the branches by the next integers."""

    def __init__(self, gives):
        self.size = 0
        self.gives = gives
        self.below = {}

    def branch_by(self, values, gives):
        """The branch by the next integers, made if there is none."""
        found = self.below.get(values)
        if found is None:
            found = Branch({name: values[index] for name, index in gives})
            self.below[values] = found
        return found


class Search:
    """A clause that is made ready to be looked for in rows.

    It tells the integers of all variables, or of those that are named and perhaps more.
    """

    def __init__(self, clause, told=None):
        self._one = _terms_made_one(clause)
        self._parts = []
        self._levels = []
        self._is_sorted = True
        if self._one is not None:
            self._take_parts(clause)
            self._take_levels(told)

    def _take_parts(self, clause):
        """Take the parts, and the tests between parts and within each part."""
        one = self._one
        self._parts = [(table, [one.get(term, term) for term in terms]) for table, terms in clause.parts]
        tests = [(one.get(low, low), one.get(high, high)) for low, word, high in clause.tests if word == "!="]
        self._inner = [[test for test in tests if _is_within(test, terms)] for _, terms in self._parts]
        self._outer = [test for test in tests if not any([test in inner for inner in self._inner])]
        # All variables stand here from the start, so that the dicts of matches have them in their order.
        self._base = {name: 0 if is_variable(one[name]) else one[name] for name in clause.variables}

    def _take_levels(self, told):
        """Put the variables into levels: (variables, parts, what they give, tests that can be made then)."""
        stands = _stands(self._parts)
        tested = [term for test in self._outer for term in test]
        first = sorted([name for name in stands if len(stands[name]) > 1 or name in tested])
        last = sorted([name for name in stands if name not in first])
        self._is_sorted = not first
        if told is not None:
            wanted = [self._one[name] for name in told]
            last = [name for name in last if name in wanted]
        if not self._is_sorted:
            last = sorted(last, key=lambda name: (stands[name], name))
        groups = []
        for name in [*first, *last]:
            if groups and stands[groups[-1][-1]] == stands[name]:
                groups[-1].append(name)
            else:
                groups.append([name])
        seen, levels = [], []
        for names in list(groups):
            seen = [*seen, *names]
            gives = [(name, names.index(self._one[name])) for name in self._base if self._one[name] in names]
            tests = [test for test in self._outer if any([term in names for term in test]) and _is_within(test, seen)]
            levels.append((names, stands[names[0]], gives, tests))
        self._levels = levels
        self._steps_of = [[(level[0], level[2]) for level in self._levels if at in level[1]]
                          for at in range(len(self._parts))]

    def _tree(self, at, rows, is_ordered):
        """The branches of the rows that fit a part, or None if there are none."""
        table, terms = self._parts[at]
        steps = self._steps_of[at]
        keys = []
        for row in rows.get(table, ()):
            known = _known_by(terms, self._inner[at], row)
            if known is not None:
                keys.append([tuple([known[name] for name in names]) for names, _ in steps])
        root = Branch({})
        for key in sorted(keys) if is_ordered else keys:
            branch = root
            branch.size += 1
            for (_, gives), values in zip(steps, key):
                branch = branch.branch_by(values, gives)
                branch.size += 1
        return root if keys else None

    def _trees(self, rows, is_ordered):
        """The branches of all parts, ascending if that is asked for, or None if there is no open match."""
        if self._one is None:
            return None
        found = []
        for at in range(len(self._parts)):
            tree = self._tree(at, rows, is_ordered)
            if tree is None:
                return None
            found.append(tree)
        return found

    def _steps(self, at, branches, known):
        """What can be known behind a level, each with the branches that are left."""
        _, where, _, tests = self._levels[at]
        first = branches[where[0]].below
        found = []
        for values in first:
            if len(where) == 1 or all([values in branches[part].below for part in where]):
                more = {**known, **first[values].gives}
                if not tests or _are_unequal(tests, more):
                    left = list(branches)
                    for part in where:
                        left[part] = branches[part].below[values]
                    found.append((more, left))
        return found

    def _leaf(self, at):
        """The index of the part of the last level, if this is it, and all of its integers fit; or None."""
        _, where, _, tests = self._levels[at]
        return where[0] if at == len(self._levels) - 1 and len(where) == 1 and not tests else None

    def _list(self, at, branches, known, found, limit):
        """Put the open matches behind a level into the found ones, until there are more than the limit."""
        if at == len(self._levels):
            found.append(known)
            return
        part = self._leaf(at)
        if part is not None:
            found.extend([{**known, **branch.gives} for branch in branches[part].below.values()])
            return
        for more, left in self._steps(at, branches, known):
            if len(found) <= limit:
                self._list(at + 1, left, more, found, limit)

    def listed(self, rows, limit):
        """The list of the open matches in some rows, ascending by their integers."""
        trees = self._trees(rows, self._is_sorted)
        if trees is None:
            return []
        found = []
        self._list(0, trees, dict(self._base), found, limit)
        if len(found) > limit:
            raise TooMany(limit)
        if self._is_sorted:
            return found
        return sorted(found, key=lambda match: tuple(match.values()))

    def _weigh(self, at, branches, known, found, limit):
        """Put what is known behind the last level into the found pairs, and return how many open matches have it.

        It stops when there are more than the limit.
        """
        if at == len(self._levels):
            many = _product([branch.size for branch in branches])
            found.append((known, many))
            return many
        part = self._leaf(at)
        if part is not None:
            rest = _product([branch.size for branch in [*branches[:part], *branches[part + 1:]]])
            last = branches[part]
            found.extend([({**known, **branch.gives}, rest * branch.size) for branch in last.below.values()])
            return rest * last.size
        total = 0
        for more, left in self._steps(at, branches, known):
            total += self._weigh(at + 1, left, more, found, limit - total)
            if total > limit:
                break
        return total

    def weighed(self, rows, limit):
        """Pairs of what is known and of how many open matches in some rows have it."""
        trees = self._trees(rows, False)
        found = []
        if trees is not None and self._weigh(0, trees, self._base, found, limit) > limit:
            raise TooMany(limit)
        return found
