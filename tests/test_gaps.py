"""[0.24], [13.1] to [13.4] and the names of stage 13."""

import itertools
import math
import random
import unittest

from dealtrows.ask.queries import Clause, Query
from dealtrows.base.databases import Database
from dealtrows.base.schemas import Schema
from dealtrows.deal.cases import Case
from dealtrows.deal.placements import Placement
from dealtrows.decide.smallcases import small_cases
from dealtrows.decide.verdicts import is_right_for
from dealtrows.errors import InvalidCase, InvalidOperation, InvalidPlacement, InvalidQuery, TooMany
from dealtrows.more.gaps import basis_of, corrections, error_step, gap_basis, gap_certificate, gaps, is_gap_certificate
from dealtrows.more.gaps import unbalanced
from samples import DAY, EIGHTY, FAR, IDLE, NEAR, PRICES, SHOP, SIXTY, SIXTY_ONE, SPLIT, TOWNS, case_with, odd_but
from samples import odd_values, shop_again, told_error
from test_smallcases import ALL, ANY, FIRST, asked, bans
from test_verdicts import A, B, C, SIDES, TWICE, sides

SUMS = sides((C,), (A, B, C))
LONG = (SIXTY, 10 ** 59 + 7, 10 ** 58 + 9)
# Placements and queries of one to three clauses, right and wrong ones.
COUNTED = (
    (NEAR, PRICES), (FAR, PRICES), (NEAR, Query(SHOP, "count", IDLE)), (FAR, Query(SHOP, "count", IDLE)),
    (FAR, Query(SHOP, "count", *TOWNS)), (TWICE, SUMS), (TWICE, sides((C,))), (TWICE, sides((A, B))),
    (TWICE, sides((C,), (A, B, C), (A,))), (TWICE, sides((C,), (A, B), (A, B, C))), (TWICE, sides((C, A), (C, B), (A, B))),
    (bans(), asked("count", ("r", ("k", "x")))), (bans(r=(FIRST,)), asked("count", ("r", ("f", "x")), head=("k",))),
    (bans(p=(ALL,), r=(ALL,)), asked("count", ("r", ("f", "x")))),
    (bans(), Query(bans().schema, "count", Clause((("p", ("k", "x")),), absences=(("r", ("k", "f")),)),
                   Clause((("p", ("k", "x")),)))),
)


def is_basis(rows, width):
    """[13.3]"""
    pivots = []
    for row in rows:
        if not isinstance(row, tuple) or len(row) != width or not any(row):
            return False
        pivots.append(next(at for at, number in enumerate(row) if number))
        if row[pivots[-1]] <= 0:
            return False
    ascend = all(low < high for low, high in zip(pivots, pivots[1:]))
    return ascend and all(0 <= earlier[at] < rows[index][at] for index, at in enumerate(pivots) for earlier in rows[:index])


def is_sum(row, basis):
    """Whether a row is a sum of integer multiples of the rows of a basis."""
    for line in basis:
        at = next(at for at, number in enumerate(line) if number)
        factor, rest = divmod(row[at], line[at])
        if rest:
            return False
        row = tuple(number - factor * less for number, less in zip(row, line))
    return not any(row)


def determinants(rows, size):
    """The greatest integer that divides all determinants of so many rows in so many columns."""
    def determinant(square):
        if not square:
            return 1
        rest = [[line[:at] + line[at + 1:] for line in square[1:]] for at in range(len(square))]
        return sum((-1) ** at * square[0][at] * determinant(rest[at]) for at in range(len(square)))
    found = 0
    for chosen in itertools.combinations(rows, size):
        for columns in itertools.combinations(range(len(rows[0])), size):
            found = math.gcd(found, determinant([[row[at] for at in columns] for row in chosen]))
    return found


def gap_of(case, query, head):
    """[13.1]"""
    return tuple(case(query.only(index))[head] - case.whole(query.only(index))[head] for index in range(len(query)))


def all_gaps(placement, query):
    """All gaps of all heads in the small cases."""
    found = set()
    for case in small_cases(placement, query):
        heads = {head for index in range(len(query)) for answer in (case(query.only(index)), case.whole(query.only(index)))
                 for head in answer}
        found |= {gap_of(case, query, head) for head in heads}
    return sorted(found | {(0,) * len(query)})


class GapsTest(unittest.TestCase):
    def test_one_clause(self):
        near = Case.single(NEAR, DAY).with_nodes(3)
        self.assertEqual(gaps(near, PRICES), {(7,): (2,)})
        self.assertEqual(gaps(SPLIT, PRICES), {})
        self.assertEqual(gaps(SPLIT, Query(SHOP, "count", *TOWNS)), {(5,): (-1,)})

    def test_one_clause_is_lost_and_one_counted_twice(self):
        rows = {"a": ((1,),), "b": ((1,),), "c": ((1,),)}
        case = case_with(TWICE, rows, 2, {("by", "t", (1,)): 1})
        self.assertEqual(gaps(case, SUMS), {(): (1, -1)})
        self.assertTrue(case.is_right(SUMS))
        self.assertEqual(gaps(case, sides((A,), (A, B, C), (C,))), {(): (0, -1, 1)})

    def test_heads_whose_gap_is_zeros_are_left_out(self):
        rows = {"a": ((1,), (2,)), "b": ((1,), (2,)), "c": ((1,), (2,))}
        query = Query(SIDES, "count", Clause((A, B), head=("k",)), Clause((C,), head=("k",)))
        case = case_with(TWICE, rows, 2, {("by", "t", (2,)): 1})
        self.assertEqual(gaps(case, query), {(2,): (-1, 1)})
        wide = case_with(TWICE, rows, 3, {("by", "t", (2,)): 1, ("by", "t", (1,)): 2})
        self.assertEqual(list(gaps(wide, query).items()), [((1,), (-1, 1)), ((2,), (-1, 1))])

    def test_absences(self):
        query = asked("count", ("r", ("k", "x")), head=("k",))
        rows = {"p": ((1, 5), (2, 5)), "r": ((1, 5), (2, 5))}
        case = case_with(bans(), rows, 2, {("any", "r", (1, 5)): 1})
        self.assertEqual(gaps(case, query), {(1,): (1,)})
        self.assertEqual(gaps(case, query + query), {(1,): (1, 1)})

    def test_gaps_are_those_of_the_answers(self):
        for placement, query in COUNTED:
            for case in small_cases(placement, query):
                found = gaps(case, query)
                self.assertEqual(list(found), sorted(found))
                self.assertTrue(all(any(found[head]) for head in found))
                for head in found:
                    self.assertEqual(found[head], gap_of(case, query, head))
                self.assertEqual(any(sum(found[head]) for head in found), not case.is_right(query))

    def test_errors(self):
        for value in odd_but(Case):
            self.assertEqual(told_error(gaps, value, None), (InvalidCase,))
        for value in odd_but(Query):
            self.assertEqual(told_error(gaps, SPLIT, value), (InvalidQuery,))
        self.assertEqual(told_error(gaps, SPLIT, SUMS), (InvalidOperation,))
        self.assertEqual(told_error(gaps, SPLIT, sides((A,), form="distinct")), (InvalidOperation,))
        self.assertEqual(told_error(gaps, SPLIT, TOWNS), (InvalidOperation,))
        self.assertEqual(told_error(gaps, SPLIT, Query(SHOP, "sum", Clause((("item", ("i", "p")),), summed="p"))),
                         (InvalidOperation,))
        again = Query(shop_again(), "count", *PRICES)
        self.assertEqual(gaps(Case.single(NEAR, DAY).with_nodes(2), again), {(7,): (1,)})

    def test_too_many_matches(self):
        schema = Schema({"t": ("a",)})
        place = Placement(schema, t=(ALL,))
        clause = Clause((("t", ("x",)), ("t", ("y",)), ("t", ("z",))))
        for many, wrong in ((12, None), (13, (TooMany, 2000))):
            case = Case.single(place, Database(schema, {"t": tuple((number,) for number in range(many))}))
            self.assertEqual(told_error(gaps, case, Query(schema, "count", clause)), wrong)
            # Another form is due first, and one clause is enough.
            self.assertEqual(told_error(gaps, case, Query(schema, "distinct", clause)), (InvalidOperation,))
            self.assertEqual(told_error(gaps, case, Query(schema, "count", Clause((("t", ("x",)),)), clause)), wrong)


class BasisTest(unittest.TestCase):
    def test_bases(self):
        for rows, basis in (
                ((), ()), (((0,),), ()), (((0, 0, 0), (0, 0, 0)), ()), (((6,), (-4,)), ((2,),)), (((-5,),), ((5,),)),
                (((2, 4), (2, 4)), ((2, 4),)), (((1, 2), (-3, -6), (2, 4)), ((1, 2),)), (((0, -3), (0, 2)), ((0, 1),)),
                (((2, 0), (0, 2), (1, 1)), ((1, 1), (0, 2))), (((3, 1), (0, 5), (0, 10)), ((3, 1), (0, 5))),
                (((1, 7), (0, 3)), ((1, 1), (0, 3))), (((1, -7), (0, 3)), ((1, 2), (0, 3))),
                (((1, 2, 3), (4, 5, 6), (7, 8, 9)), ((1, 2, 3), (0, 3, 6))), (((0, 0, -4),), ((0, 0, 4),)),
                (((1, -1), (-2, 2)), ((1, -1),)), (((2, 3, 5), (4, 6, 9)), ((2, 3, 0), (0, 0, 1)))):
            self.assertEqual(basis_of(rows), basis, rows)

    def test_long_integers(self):
        self.assertEqual(basis_of(((SIXTY,), (SIXTY - 1,))), ((1,),))
        found = basis_of(((SIXTY, 1), (1, LONG[1])))
        self.assertTrue(any(abs(number) > EIGHTY for row in found for number in row))
        self.check(((SIXTY, 1), (1, LONG[1])))
        self.check((LONG, LONG[::-1], (1, SIXTY, -SIXTY), (-SIXTY, LONG[2], 0)))

    def check(self, rows):
        found = basis_of(rows)
        width = len(rows[0])
        self.assertTrue(is_basis(found, width), rows)
        # Each row is a sum of multiples of the basis, and both have the same determinants.
        self.assertTrue(all(is_sum(row, found) for row in rows), rows)
        if found:
            self.assertEqual(determinants(rows, len(found)), determinants(found, len(found)), rows)
        if all(abs(number) <= SIXTY for row in found for number in row):
            self.assertEqual(basis_of(found), found)

    def test_random_rows(self):
        drawn = random.Random(13)
        for most in (1, 3, 20, SIXTY):
            for _ in range(150):
                width = drawn.randint(1, 3)
                rows = [tuple(drawn.randint(-most, most) for _ in range(width)) for _ in range(drawn.randint(1, 5))]
                rows.append(tuple(number * drawn.randint(-1, 1) for number in rows[0]))
                self.check(tuple(rows))
                drawn.shuffle(rows)
                self.assertEqual(basis_of(tuple(rows)), basis_of(tuple(sorted(rows))))

    def test_errors(self):
        for value in (*odd_values(), [(1,)], ((1,), (1, 2)), ((),), ((), ()), ((1, 2, 3, 4),), ((1,), [1]), ((1,), None),
                      ((True,),), ((1, False),), ((1,), (SIXTY_ONE,)), ((1, -SIXTY_ONE),), ((1, "a"),), {(1,): 1}, (1, 2)):
            if value != ():
                self.assertEqual(told_error(basis_of, value), (InvalidOperation,), value)


class LatticeTest(unittest.TestCase):
    def test_bases_are_those_of_the_small_cases(self):
        for placement, query in COUNTED:
            found = gap_basis(placement, query)
            self.assertEqual(found, basis_of(tuple(all_gaps(placement, query))))
            self.assertTrue(is_basis(found, len(query)))

    def test_gaps_of_other_cases_are_sums(self):
        drawn = random.Random(24)
        for placement, query in COUNTED:
            basis = gap_basis(placement, query)
            for _ in range(15):
                gap_rows = list(gaps(drawn_case(drawn, placement), query).values())
                self.assertTrue(all(is_sum(row, basis) for row in gap_rows))

    def test_corrections(self):
        for placement, query in COUNTED:
            basis, found = gap_basis(placement, query), corrections(placement, query)
            self.assertTrue(is_basis(found, len(query)))
            for weights in itertools.product(range(-3, 4), repeat=len(query)):
                balanced = not any(sum(map(int.__mul__, weights, row)) for row in basis)
                self.assertEqual(is_sum(weights, found), balanced)
                self.assertEqual(error_step(placement, query, weights) == 0, balanced)
                self.assertEqual(unbalanced(placement, query, weights) is None, balanced)
        self.assertEqual(corrections(FAR, PRICES), ((1,),))
        self.assertEqual(corrections(NEAR, PRICES), ())
        self.assertEqual(corrections(FAR, PRICES + PRICES), ((1, 0), (0, 1)))

    def test_steps(self):
        for placement, query in COUNTED:
            rows = all_gaps(placement, query)
            for weights in ((0,) * len(query), (1,) * len(query), (3, -5, 7)[:len(query)], (SIXTY,) * len(query)):
                errors = [sum(map(int.__mul__, weights, row)) for row in rows]
                self.assertEqual(error_step(placement, query, weights), math.gcd(*errors))
        self.assertEqual([error_step(TWICE, SUMS, weights) for weights in ((2, -4), (1, 1), (0, 0), (SIXTY, -SIXTY))],
                         [6, 0, 0, 2 * SIXTY])

    def test_right_queries_have_balanced_ones(self):
        for placement, query in COUNTED:
            ones = (1,) * len(query)
            right = is_right_for(placement, query)
            self.assertEqual([error_step(placement, query, ones) == 0, unbalanced(placement, query, ones) is None],
                             [right, right])

    def test_unbalanced_pairs(self):
        for placement, query in COUNTED:
            for weights in ((1,) * len(query), (2, 0, -1)[:len(query)], (0, 1, 1)[:len(query)]):
                found = unbalanced(placement, query, weights)
                if found is not None:
                    case, head = found
                    self.assertEqual(case.placement, placement)
                    self.assertNotEqual(sum(map(int.__mul__, weights, gap_of(case, query, head))), 0)


def drawn_case(drawn, placement):
    """A case of a placement with drawn rows and nodes."""
    database = Database(placement.schema)
    for _ in range(6):
        for table in placement.schema.tables:
            row = tuple(drawn.randint(0, 2) for _ in placement.schema.columns_of(table))
            try:
                database = database.with_row(table, row)
            except ValueError:
                pass
    nodes = drawn.randint(1, 3)
    places = [place for place in placement.places_in(database) if place != ALL]
    return Case.of_places(placement, database, nodes,
                          {place: 0 if place == FIRST else drawn.randrange(nodes) for place in places})


class CertificateTest(unittest.TestCase):
    def test_certificates(self):
        for placement, query in COUNTED:
            found = gap_certificate(placement, query)
            self.assertIs(is_gap_certificate(placement, query, found), True)
            self.assertIs(is_gap_certificate(placement, query, found[::-1]), True)
            self.assertEqual(found == (), gap_basis(placement, query) == ())

    def test_other_pairs(self):
        rows = {"a": ((1,), (8,)), "b": ((1,), (8,)), "c": ((1,), (8,))}
        wide = case_with(TWICE, rows, 4, {("by", "t", (1,)): 1, ("by", "s", (8,)): 2, ("by", "t", (8,)): 2})
        self.assertEqual(gaps(wide, SUMS), {(): (1, -1)})
        small = gap_certificate(TWICE, SUMS)
        double = case_with(TWICE, rows, 4, {("by", "t", (1,)): 1, ("by", "s", (8,)): 2, ("by", "t", (8,)): 3})
        self.assertEqual(gaps(double, SUMS), {(): (2, -2)})
        right = case_with(TWICE, rows, 2, {})
        self.assertEqual(gaps(right, SUMS), {})
        for value, told in (
                (((wide, ()),), True), (small + ((wide, ()),), True), (((wide, ()), (right, ()), (double, ())), True),
                (((double, ()),), False), (((right, ()),), False), ((), False), (((wide, ()), (wide, ())), False),
                (small + small, False), ([(wide, ())], False), ((wide, ()), False), (((wide, (1,)),), False),
                (((wide, ()), (wide, (1,))), False), (((wide, None),), False), (((wide,),), False),
                (((wide, (), 1),), False), (((wide, [])), False), (((wide, ()), None), False)):
            self.assertIs(is_gap_certificate(TWICE, SUMS, value), told, value)

    def test_heads_that_are_not_wrong(self):
        case = Case.single(NEAR, DAY).with_nodes(2)
        for value, told in (
                (((case, (7,)),), True), (((case, (7,)), (case, (8,))), True), (((case, (8,)),), False),
                (((case, (7,)), (case, (SIXTY,))), True), (((case, (7,)), (case, (SIXTY_ONE,))), False),
                (((case, (7,)), (case, (True,))), False), (((case, (7,)), (case, ())), False),
                (((case, (7,)), (case, (7, 7))), False), (((case, (7,)), (case, "7")), False)):
            self.assertIs(is_gap_certificate(NEAR, PRICES, value), told, value)
        self.assertIs(is_gap_certificate(FAR, PRICES, ()), True)
        self.assertIs(is_gap_certificate(FAR, PRICES, ((SPLIT, (7,)),)), True)
        self.assertIs(is_gap_certificate(FAR, PRICES, ((case, (7,)),)), False)
        self.assertIs(is_gap_certificate(FAR, PRICES, ((SPLIT, (7,)), (case, (7,)))), False)

    def test_a_pair_less(self):
        query = sides((C,), (A, B), (A, B, C))
        found = gap_certificate(TWICE, query)
        self.assertEqual(len(found), len(gap_basis(TWICE, query)))
        self.assertGreaterEqual(len(found), 2)
        for at in range(len(found)):
            self.assertIs(is_gap_certificate(TWICE, query, found[:at] + found[at + 1:]), False)

    def test_too_many_matches(self):
        schema = Schema({"t": ("a",)})
        place = Placement(schema, t=(("by", "s", ("a",)),))
        query = Query(schema, "count", Clause((("t", ("x",)), ("t", ("y",)), ("t", ("z",)))))
        big = Case.single(place, Database(schema, {"t": tuple((number,) for number in range(13))}))
        found = gap_certificate(place, query)
        self.assertIs(is_gap_certificate(place, query, found), True)
        self.assertIs(is_gap_certificate(place, query, found + ((big, ()),)), False)

    def test_every_value_is_judged(self):
        for value in (*odd_values(), ((SPLIT, ()),), ((DAY, ()),), ((None, ()),)):
            if value != ():
                self.assertIs(is_gap_certificate(FAR, PRICES, value), False)


class ErrorsTest(unittest.TestCase):
    CALLS = (gap_basis, corrections, gap_certificate, lambda *told: is_gap_certificate(*told, None),
             lambda *told: error_step(*told, (1,)), lambda *told: unbalanced(*told, (1,)))

    def test_order_of_errors(self):
        two = NEAR.with_rules("ord", ("with", "oc"), ANY)
        absent = Query(SHOP, "count", IDLE)
        for call in self.CALLS:
            for value in odd_but(Placement):
                self.assertEqual(told_error(call, value, None), (InvalidPlacement,))
            for value in odd_but(Query):
                self.assertEqual(told_error(call, NEAR, value), (InvalidQuery,))
            for wrong in (TOWNS, sides((A,)), sides((A,), form="distinct"), Query(SHOP, "sum", Clause(
                    (("item", ("i", "p")),), summed="p"))):
                self.assertEqual(told_error(call, NEAR, wrong), (InvalidOperation,))
            self.assertEqual(told_error(call, two, absent), (InvalidOperation,))
            self.assertIsNone(told_error(call, two, PRICES))

    def test_limits(self):
        schema = Schema({"t": ("a", "b", "c", "d")})
        seven = Query(schema, "count", Clause((("t", ("a", "b", "c", "d")), ("t", ("e", "f", "g", "a")))))
        eight = Query(schema, "count", Clause((("t", ("a", "b", "c", "d")), ("t", ("e", "f", "g", "h")))))
        everywhere = Placement(schema, t=(ALL,))
        by = Placement(schema, t=(("by", "s", ("a", "b")), ("by", "w", ("c",))))
        for call in self.CALLS:
            self.assertEqual(told_error(call, everywhere, eight), (TooMany, 7))
            self.assertEqual(told_error(call, by, seven), (TooMany, 2000))
            # Another form is due before any limit.
            self.assertEqual(told_error(call, everywhere, Query(schema, "distinct", *eight)), (InvalidOperation,))

    def test_weights(self):
        for call in (error_step, unbalanced):
            for value in (*odd_values(), (), (1, 2), (True,), (SIXTY_ONE,), [1], 1, ("1",), ((1,),)):
                self.assertEqual(told_error(call, NEAR, PRICES, value), (InvalidOperation,), value)
                self.assertEqual(told_error(call, NEAR, None, value), (InvalidQuery,))
                self.assertEqual(told_error(call, None, PRICES, value), (InvalidPlacement,))
            self.assertEqual(told_error(call, NEAR, PRICES, (SIXTY,)), None)
            self.assertEqual(told_error(call, NEAR, TOWNS, (1,)), (InvalidOperation,))


if __name__ == "__main__":
    unittest.main()
