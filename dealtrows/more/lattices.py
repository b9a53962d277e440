"""Sums of integer multiples of rows, and their bases.

A basis is kept reduced while rows are taken into it one by one, so that its
integers stay as small as its sums allow.
"""


def _pivot(row):
    """The index of the first integer of a row that is not 0, or its length."""
    for at, number in enumerate(row):
        if number != 0:
            return at
    return len(row)


def _less(row, other, factor):
    """A row less another one, so many times."""
    return tuple([number - factor * less for number, less in zip(row, other)])


def _pivot_row(basis, at, width):
    """The row of a basis with its pivot in a column, or zeros."""
    for row in basis:
        if _pivot(row) == at:
            return row
    return (0,) * width


def _reduced(rows):
    """Rows with ascending pivots, in whose columns earlier integers are made less than them."""
    found = []
    for row in rows:
        at = _pivot(row)
        found = [*[_less(earlier, row, earlier[at] // row[at]) for earlier in found], row]
    return tuple(found)


def basis_with(basis, row):
    """The basis of the sums of multiples of a basis and one more row."""
    found = []
    rest = row
    for at in range(len(row)):
        first = _pivot_row(basis, at, len(row))
        # Both rows are made less by one another until one of them has 0 in the column.
        while rest[at] != 0:
            first, rest = rest, _less(first, rest, first[at] // rest[at])
        if first[at] > 0:
            found.append(first)
        elif first[at] < 0:
            found.append(_less((0,) * len(row), first, 1))
    return _reduced(found)


def basis_from(rows):
    """The basis of the sums of integer multiples of rows of one length."""
    found = ()
    for row in rows:
        found = basis_with(found, row)
    return found


def balanced_basis(rows, width):
    """The basis of all weights for which the weighted sum of each row of this width is 0."""
    told = [(*[row[at] for row in rows], *[1 if at == other else 0 for other in range(width)]) for at in range(width)]
    many = len(rows)
    return tuple([row[many:] for row in basis_from(told) if _pivot(row) >= many])
