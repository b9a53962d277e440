"""Smaller counterexamples within a counterexample.

A counterexample without a smaller one in it has the rows of the closure of one
open match, and rows that block open matches in this closure. So only such
subcases are looked at.
"""

from dealtrows.ask.joins import blockers, number_of, open_list, pairs_of, values_of
from dealtrows.ask.matches import MAX_MATCHES


def absent_tables(query):
    """The list of the tables of the absences of a query."""
    return [table for clause in query.clauses for table, _ in clause.absences]


def absent_pairs(query, database):
    """The pairs of the rows of a database that lie in tables of absences."""
    tables = absent_tables(query)
    return [pair for pair in database.pairs() if pair[0] in tables]


def _mask(flags):
    """The integer with the bits of these truths."""
    found = 0
    for at, flag in enumerate(flags):
        if flag:
            found += 1 << at
    return found


def _closures(query, case):
    """The different closures of the open matches in a case, tuples of pairs, those with fewer rows first."""
    rows = case.database.rows
    found = {}
    for clause in query.clauses:
        for parts in sorted(set([pairs_of(clause, match) for match in open_list(clause, rows, MAX_MATCHES)])):
            found[case.database.closure_pairs(parts)] = True
    return sorted(found, key=lambda pairs: (len(pairs), pairs))


def _many_bits(mask):
    """How many bits of a mask are set."""
    return f"{mask:b}".count("1")


class Closure:
    """The open matches in the closure of one of them, and the rows of a case that block them."""

    def __init__(self, query, case, pairs, lies):
        self._asked = query
        self._pairs = pairs
        rows = {}
        for table, row in pairs:
            rows.setdefault(table, []).append(row)
        told = [(clause, match) for clause in query.clauses for match in open_list(clause, rows, MAX_MATCHES)]
        found = [blockers(clause, case.database.rows, match) if clause.absences else () for clause, match in told]
        self._blocking = tuple(sorted(set([pair for stops in found for pair in stops])))
        self._at = [_mask([node in lies[pair] for pair in self._blocking]) for node in range(case.nodes)]
        self._matches = [self._weighed(lies, told[at][0], told[at][1], found[at]) for at in range(len(told))]

    def _weighed(self, lies, clause, match, stops):
        """The head and the number of a match, its nodes, and which rows block it."""
        first, *rest = [lies[pair] for pair in pairs_of(clause, match)]
        nodes = [node for node in first if all([node in told for told in rest])]
        number = number_of(self._asked.form, clause, match)
        return (values_of(clause.head, match), number, nodes, _mask([pair in stops for pair in self._blocking]))

    def _is_wrong(self, kept):
        """Whether the subcase with the blocking rows of this mask is a counterexample."""
        whole, mine = {}, {}
        for head, number, nodes, stops in self._matches:
            many = len([node for node in nodes if not stops & kept & self._at[node]])
            if not stops & kept:
                whole[head] = whole.get(head, 0) + number
            mine[head] = mine.get(head, 0) + many * number
        if self._asked.form == "distinct":
            return any([(mine[head] > 0) != (whole.get(head, 0) > 0) for head in mine])
        return any([mine[head] != whole.get(head, 0) for head in mine])

    def wrong_pairs(self, most):
        """The pairs of a counterexample with at most so many rows, or None."""
        masks = list(range(1 << len(self._blocking)))
        for kept in sorted(masks, key=lambda mask: (_many_bits(mask), mask)):
            if len(self._pairs) + _many_bits(kept) > most:
                return None
            if self._is_wrong(kept):
                return [*self._pairs, *[pair for at, pair in enumerate(self._blocking) if kept >> at & 1]]
        return None


def smaller_pairs(query, case):
    """The pairs of a counterexample with fewer rows in a counterexample, or None if it is tight.

    They make a tight one: those of an open match with fewer rows in its closure, or with fewer rows that block,
    are looked at before.
    """
    lies = case.lies()
    for pairs in _closures(query, case):
        found = Closure(query, case, pairs, lies).wrong_pairs(len(case) - 1)
        if found is not None:
            return found
    return None
