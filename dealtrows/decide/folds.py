"""Folds: the ways in which the parts of a clause can become lines of a draft.

In a pattern of the draft a fold is an open match if its equal places have equal
values, and its unequal places unequal ones. So the ties in the rows of a pattern
are told before there are any rows.
"""


def _tied_places(clause, terms):
    """The tuple of the places of those terms of an absence of a clause that are not free."""
    return tuple([place for place, term in enumerate(terms) if not isinstance(term, str) or term in clause.variables])


def tie_kinds(clauses):
    """The list of the different kinds of ties of clauses: pairs of a table and the places of its tied columns."""
    found = [(table, _tied_places(clause, terms)) for clause in clauses for table, terms in clause.absences]
    return list({kind: True for kind in found})


def _with_line(told, equal, terms, places):
    """The places of terms, and the pairs of equal places, if a part with these terms becomes a line, too."""
    more = {**told}
    pairs = list(equal)
    for term, place in zip(terms, places):
        if more.setdefault(term, place) != place:
            pairs.append((more[term], place))
    return (more, pairs)


def _lines_for(clause, lines, integers):
    """Pairs of the places of terms and of equal places, for all ways to give the parts of a clause lines."""
    found = [(integers, [])]
    for table, terms in clause.parts:
        found = [_with_line(told, equal, terms, places) for told, equal in found
                 for name, places in lines if name == table]
    return found


def _tested(clause, told, word):
    """The pairs of places that are compared by the tests with this word."""
    return [(told[low], told[high]) for low, other, high in clause.tests if other == word]


def _different(pairs):
    """The ascending tuple of the different pairs of different places."""
    return tuple(sorted(set([pair for pair in pairs if pair[0] != pair[1]])))


def _tied_terms(clause, kinds):
    """For each absence of a clause the index of its kind, and its tied terms."""
    found = [(table, _tied_places(clause, terms), terms) for table, terms in clause.absences]
    return [(kinds.index((table, tied)), [terms[place] for place in tied]) for table, tied, terms in found]


def folds_of(clauses, lines, integers):
    """The list of the folds of those clauses that have absences, by the places of the integers, which come first.

    A fold is a triple: pairs of equal places, pairs of unequal places, and pairs of a kind of ties and tied places.
    """
    found = {}
    kinds = tie_kinds(clauses)
    for clause in [clause for clause in clauses if clause.absences]:
        absent = _tied_terms(clause, kinds)
        for told, pairs in _lines_for(clause, lines, integers):
            equal = _different([*pairs, *_tested(clause, told, "=")])
            unequal = _tested(clause, told, "!=")
            # Different integers are never equal, and no place is unequal to itself.
            if all([max(pair) >= len(integers) for pair in equal]) and all([low != high for low, high in unequal]):
                tied = tuple([(kind, tuple([told[term] for term in terms])) for kind, terms in absent])
                found[equal, _different(unequal), tied] = True
    return list(found)


def holds(equal, unequal, values):
    """Whether places that are equal have equal values, and places that are unequal have unequal ones."""
    for low, high in equal:
        if values[low] != values[high]:
            return False
    for low, high in unequal:
        if values[low] == values[high]:
            return False
    return True
