"""Matches of clauses in rows.

Queries and their matches both need these functions, so they stand below both
and take the limit of matches from their callers.
"""

from dealtrows.ask.terms import is_variable


def value_of(term, match):
    """The integer of a term in a match."""
    return match[term] if is_variable(term) else term


def values_of(terms, match):
    """The tuple of the integers of some terms, none of them free, in a match."""
    return tuple([match.get(term, term) for term in terms])


def pairs_of(clause, match):
    """The ascending tuple of the different pairs (table, row) that the parts become."""
    return tuple(sorted(set([(table, values_of(terms, match)) for table, terms in clause.parts])))


def open_list(clause, rows, limit):
    """The list of the open matches in some rows, ascending by their integers."""
    chain = clause.chain()
    if chain.is_few(rows):
        return chain.matches_of(chain.found(rows))
    return clause.search_all().listed(rows, (), limit)


def check_many(clause, rows, limit):
    """Refuse a clause with more open matches in some rows than the limit."""
    if not clause.chain().is_few(rows):
        clause.search_told().check_many(rows, limit)


def is_open(clause, rows, match):
    """Whether a dict from the variables to integers is an open match."""
    there = [values_of(terms, match) in rows.get(table, ()) for table, terms in clause.parts]
    return all(there) and all([(value_of(one, match) == value_of(other, match)) == (word == "=")
                               for one, word, other in clause.tests])


def _is_blocking(terms, row, match):
    """Whether an absence with these terms becomes the row, with some integers for its free variables."""
    return all([is_variable(term) and term not in match or value_of(term, match) == number
                for term, number in zip(terms, row)])


def blockers(clause, rows, match):
    """The ascending tuple of the pairs of the rows that an absence becomes in an open match."""
    found = [(table, row) for table, terms in clause.absences for row in rows.get(table, ())
             if _is_blocking(terms, row, match)]
    return tuple(sorted(set(found)))


def _tied_terms(clause, rows):
    """Pairs of the tied terms of an absence and a dict of what rows have in its tied columns."""
    found = []
    for (table, terms), (_, tied) in zip(clause.absences, clause.chain().ties_at):
        there = rows.get(table, ())
        # An absence without rows rules out nothing.
        if there:
            keys = {tuple([row[place] for place, _ in tied]): True for row in there}
            found.append(([terms[place] for place, _ in tied], keys))
    return found


def tied_values(clause, rows, limit):
    """For each absence its table, the places of its tied columns, and a dict of what open matches have in them."""
    if not clause.absences:
        # The limit of open matches holds for these clauses, too.
        check_many(clause, rows, limit)
        return []
    chain = clause.chain()
    if chain.is_few(rows):
        told = chain.found(rows)
        return [(table, [place for place, _ in tied], {tuple([known[at] for _, at in tied]): True for known in told})
                for table, tied in chain.ties_at]
    found = []
    weighed = clause.search_told().weighed(rows, limit)
    for (table, terms), (_, tied) in zip(clause.absences, chain.ties_at):
        wanted = [terms[place] for place, _ in tied]
        found.append((table, [place for place, _ in tied], {values_of(wanted, known): True for known, _ in weighed}))
    return found


def match_list(clause, rows, limit, head=None):
    """The list of the matches in some rows, with a head or all, ascending by their integers."""
    chain = clause.chain()
    if chain.is_few(rows):
        found = chain.left_of(chain.found(rows), rows)
        return chain.matches_of([known for known in found if head is None or chain.head_of(known) == head])
    kept = [(terms, keys, False) for terms, keys in _tied_terms(clause, rows)]
    if head is not None:
        kept.extend([((name,), {(number,): True}, True) for name, number in zip(clause.head, head)])
    search = clause.search_all()
    if kept:
        # All open matches count, also those that are not listed.
        search.check_many(rows, limit)
    return search.listed(rows, kept, limit)


def number_of(form, clause, match):
    """What a match adds to the number of its head."""
    return value_of(clause.summed, match) if form == "sum" else 1


def _few_numbers(chain, rows):
    """Pairs of a head and what a match adds to its number, for few rows; 1 for each match but in sums."""
    found = chain.left_of(chain.found(rows), rows)
    if chain.summed_at is None:
        return [(chain.head_of(known), 1) for known in found]
    return [(chain.head_of(known), known[chain.summed_at]) for known in found]


def _many_numbers(clause, rows, limit):
    """Pairs of a head and what some matches add to its number."""
    found = clause.search_told().weighed(rows, limit)
    for terms, keys in _tied_terms(clause, rows):
        found = [pair for pair in found if values_of(terms, pair[0]) not in keys]
    names, summed = clause.head, clause.summed
    return [(tuple([known[name] for name in names]), many if summed is None else many * value_of(summed, known))
            for known, many in found]


def numbers_on(form, clauses, rows, limit):
    """The numbers of the answer of some clauses on some rows."""
    found = {}
    for clause in clauses:
        chain = clause.chain()
        told = _few_numbers(chain, rows) if chain.is_few(rows) else _many_numbers(clause, rows, limit)
        for head, number in told:
            found[head] = 1 if form == "distinct" else found.get(head, 0) + number
    return {head: found[head] for head in found if found[head] != 0}
