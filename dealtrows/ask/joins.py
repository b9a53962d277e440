"""Matches of clauses in rows.

Queries and their matches both need these functions, so they stand below both
and take the limit of matches from their callers.
"""

from dealtrows.ask.terms import is_variable


def value_of(term, match):
    """The integer of a term in a match."""
    return match[term] if is_variable(term) else term


def values_of(terms, match):
    """The tuple of the integers of some terms in a match."""
    return tuple([value_of(term, match) for term in terms])


def pairs_of(clause, match):
    """The ascending tuple of the different pairs (table, row) that the parts become."""
    return tuple(sorted(set([(table, values_of(terms, match)) for table, terms in clause.parts])))


def open_list(clause, rows, limit):
    """The list of the open matches in some rows, ascending by their integers."""
    return clause.search_all().listed(rows, limit)


def check_many(clause, rows, limit):
    """Refuse a clause with more open matches in some rows than the limit."""
    clause.search_told().weighed(rows, limit)


def is_open(clause, rows, match):
    """Whether a dict from the variables to integers is an open match."""
    there = [values_of(terms, match) in rows.get(table, ()) for table, terms in clause.parts]
    return all(there) and all([(value_of(one, match) == value_of(other, match)) == (word == "=")
                               for one, word, other in clause.tests])


def _is_blocking(terms, row, match):
    """Whether an absence with these terms becomes the row, with some integers for its free variables."""
    return all([is_variable(term) and term not in match or value_of(term, match) == number
                for term, number in zip(terms, row)])


def blockers(clause, rows, match):
    """The ascending tuple of the pairs of the rows that an absence becomes in an open match."""
    found = [(table, row) for table, terms in clause.absences for row in rows.get(table, ())
             if _is_blocking(terms, row, match)]
    return tuple(sorted(set(found)))


class Stops:
    """The absences of a clause, and which integers in their tied columns have rows."""

    def __init__(self, clause, rows):
        found = []
        for (table, _), tied in zip(clause.absences, clause.tied()):
            there = {tuple([row[at] for at, _ in tied]): True for row in rows.get(table, ())}
            # An absence without rows stops nothing.
            if there:
                found.append(([term for _, term in tied], there))
        self._ties = found

    def _is_stopped(self, match):
        """Whether some absence becomes a row."""
        return any([values_of(terms, match) in there for terms, there in self._ties])

    def left_of(self, found):
        """The list of those of some matches that no absence rules out."""
        return [match for match in found if not self._is_stopped(match)] if self._ties else found

    def left_of_pairs(self, found):
        """The list of those pairs whose first values no absence rules out."""
        return [pair for pair in found if not self._is_stopped(pair[0])] if self._ties else found


def match_list(clause, rows, limit):
    """The list of the matches in some rows, ascending by their integers."""
    return Stops(clause, rows).left_of(open_list(clause, rows, limit))


def number_of(form, clause, match):
    """What a match adds to the number of its head."""
    return value_of(clause.summed, match) if form == "sum" else 1


def numbers_on(form, clauses, rows, limit):
    """The numbers of the answer of some clauses on some rows."""
    found = {}
    for clause in clauses:
        stops = Stops(clause, rows)
        names, summed = clause.head, clause.summed
        told = clause.search_told().weighed(rows, limit)
        for known, many in stops.left_of_pairs(told):
            head = tuple([known[name] for name in names])
            if form == "distinct":
                found[head] = 1
            else:
                found[head] = found.get(head, 0) + (many if summed is None else many * value_of(summed, known))
    return {head: found[head] for head in found if found[head] != 0}
