"""Chains: how the parts of a clause are matched with few rows, one part after another.

What is known is a tuple: first the integers of the clause, then those of the
variables in the order in which they come. Terms that tests make equal are one.
"""

from dealtrows.ask.terms import integers_in, terms_made_one

# Up to so many choices of a row for each part are gone through one by one.
_FEW = 60


def _options(rows, known, twins, fresh):
    """What rows must be known by, and what they make known, for those that fit a part."""
    return [(tuple([row[at] for at in known]), tuple([row[at] for at in fresh])) for row in rows
            if not twins or all([row[at] == row[other] for at, other in twins])]


def _longer(found, options, known_at):
    """What is known behind a part, by what is known before it."""
    return [told + more for told in found for key, more in options if key == tuple([told[at] for at in known_at])]


def _told_tests(clause, one):
    """The tests that two terms are unequal, with the terms that variables are."""
    return [(one.get(low, low), one.get(high, high)) for low, word, high in clause.tests if word == "!="]


class Chain:
    """A clause that is made ready to be matched with few rows."""

    def __init__(self, clause):
        self._parts = clause.parts
        self._names = clause.variables
        one = terms_made_one(clause)
        told = {} if one is None else one
        tests = _told_tests(clause, told)
        # There is no match if tests contradict one another, or one of them compares a term with itself.
        self._is_possible = one is not None and not any([low == high for low, high in tests])
        summed = [] if clause.summed is None else [clause.summed]
        self._base = integers_in([*clause.named(), *summed])
        self._at = {number: at for at, number in enumerate(self._base)}
        self._joins = [(table, self._join([told.get(term, term) for term in terms], tests))
                       for table, terms in clause.parts]
        if clause.tests:
            self._at.update({name: self._at[told[name]] for name in told})
        self._heads = [self._at[name] for name in clause.head]
        self.summed_at = None if clause.summed is None else self._at[clause.summed]
        self.ties_at = [(table, [(place, self._at[term]) for place, term in enumerate(terms) if term in self._at])
                        for table, terms in clause.absences]

    def _join(self, terms, tests):
        """How a part is matched: known columns and what they equal, equal columns, new ones, tests made then."""
        before = self._at
        known, fresh, twins = [], [], []
        for place, term in enumerate(terms):
            if term in before:
                known.append(place)
            elif term in terms[:place]:
                twins.append((place, terms.index(term)))
            else:
                fresh.append(place)
        self._at = {**before, **{terms[place]: len(before) + more for more, place in enumerate(fresh)}}
        ready = [(self._at[low], self._at[high]) for low, high in tests
                 if low in self._at and high in self._at and not (low in before and high in before)]
        return (known, [before[terms[place]] for place in known], twins, fresh, ready)

    def parts_at(self):
        """For each part its table, and what its terms are known by."""
        return [(table, [self._at[term] for term in terms]) for table, terms in self._parts]

    def is_few(self, rows):
        """Whether there are few choices of a row for each part."""
        many = 1
        for table, _ in self._joins:
            many = many * len(rows.get(table, ()))
        return many <= _FEW

    def found(self, rows):
        """The list of what is known by each open match in few rows."""
        found = [self._base] if self._is_possible else []
        for table, (known, known_at, twins, fresh, tests) in self._joins:
            found = _longer(found, _options(rows.get(table, ()), known, twins, fresh), known_at)
            if tests:
                found = [told for told in found if all([told[low] != told[high] for low, high in tests])]
        return found

    def left_of(self, found, rows):
        """Those of the found ones that no absence rules out."""
        for table, tied in self.ties_at:
            there = rows.get(table, ())
            if there and found:
                keys = {tuple([row[place] for place, _ in tied]): True for row in there}
                found = [told for told in found if tuple([told[at] for _, at in tied]) not in keys]
        return found

    def head_of(self, known):
        """The head by which so much is known."""
        return tuple([known[at] for at in self._heads])

    def matches_of(self, found):
        """The dicts of the found ones, ascending by their integers."""
        where = [self._at[name] for name in self._names]
        told = sorted([tuple([known[at] for at in where]) for known in found])
        return [dict(zip(self._names, numbers)) for numbers in told]
