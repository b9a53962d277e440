"""[12.1] to [12.3] and the names of stage 12."""

import itertools
import random
import unittest

from dealtrows.ask.matches import open_matches
from dealtrows.ask.queries import Clause, Query
from dealtrows.base.databases import Database, first_broken
from dealtrows.base.schemas import Schema
from dealtrows.deal.cases import Case, is_counterexample
from dealtrows.deal.placements import Placement
from dealtrows.decide import tight
from dealtrows.decide.patterns import pattern_of
from dealtrows.decide.smallcases import is_small_case
from dealtrows.decide.tight import is_subcase, is_tight, small_case_of, subcase, tightened
from dealtrows.errors import InvalidCase, InvalidOperation, InvalidQuery, InvalidRow, MissingRow, TooMany
import naive
from samples import DAY, FAR, IDLE, NEAR, PRICES, SHOP, SPLIT, TOWNS, case_with, odd_but, odd_values, told_error
from test_patterns import WIDE
from test_smallcases import BANS, asked, bans

ALL, FIRST, ANY = ("all",), ("first",), ("any",)
LATE = DAY.with_row("cus", (2, 5)).with_row("ord", (2, 9, 4))
BROAD = Case(FAR, LATE, nodes=3, spreads={("s", (1,)): 0, ("s", (2,)): 1, ("t", (9,)): 2})


def by_search(query, case):
    """[12.2]: whether no other subcase is a counterexample, by trying all of them."""
    return all(other == case or other.is_right(query) for other in naive.all_subcases(case))


def some_case(source, placement, most, nodes, values=(0, 1, 2)):
    """A case with some rows of all tables, parents first."""
    schema = placement.schema
    rows = {table: () for table in schema.tables}
    for _ in range(most * 4):
        table = source.choice(list(schema.tables))
        row = tuple(source.choice(values) for _ in schema.columns_of(table))
        told = {**rows, table: tuple({*rows[table], row})}
        if first_broken(schema, told) is None and sum(map(len, told.values())) <= most:
            rows = told
    database = Database(schema, rows)
    places = {place: source.randrange(nodes) for place in placement.places_in(database) if place != ALL}
    return Case.of_places(placement, database, nodes, {**places, **({FIRST: 0} if FIRST in places else {})})


def kinds():
    """Placements and queries of every form, with absences and without, also of tables with two rules."""
    yield FAR, TOWNS
    yield NEAR, PRICES
    yield FAR, Query(SHOP, "count", IDLE)
    yield FAR, Query(SHOP, "distinct", IDLE)
    for form in ("distinct", "count", "sum"):
        more = {"summed": "x"} if form == "sum" else {}
        yield bans(), asked(form, ("r", ("k", "f")), head=("x",), **more)
        yield bans(r=(ANY, FIRST), p=(ANY,)), asked(form, ("r", ("k", "f")), **more)
        yield bans(q=(ANY, ("with", "qp")), p=(ALL,)), asked(form, ("q", ("k", "f", "x")), ("r", ("f", "x")), **more)
        yield bans(), asked(form, parts=(("p", ("k", "x")), ("p", ("l", "y"))), head=("x", "y"), **more)
        yield bans(p=(ANY, FIRST)), asked(form, parts=(("p", ("k", "x")), ("p", ("l", "x"))), head=("x",), **more)
        yield bans(), Query(BANS, form, Clause((("p", ("k", "x")),), absences=(("r", ("f", "g")),), **more),
                            Clause((("p", ("k", "x")), ("p", ("x", "y"))), **more))


def counterexamples(many, most):
    """Counterexamples with at most so many rows, some of each kind."""
    source = random.Random(7)
    for placement, query in kinds():
        cases = (some_case(source, placement, source.randint(1, most), source.choice((1, 2, 3))) for _ in range(300))
        for case in itertools.islice((case for case in cases if not case.is_right(query)), many):
            yield placement, query, case


class SubcaseTest(unittest.TestCase):
    def test_parents_come_along(self):
        case = subcase(BROAD, ("ord", (1, 9, 3)))
        self.assertEqual([case.database, case.nodes, case.placement], [DAY, 3, FAR])
        self.assertEqual(case.places, {("by", "s", (1,)): 0, ("by", "t", (9,)): 2})
        self.assertEqual(len(subcase(BROAD, ("cus", (1, 5)))), 1)

    def test_pairs(self):
        one, other = ("cus", (1, 5)), ("item", (9, 7))
        self.assertEqual(subcase(BROAD, one, other, one), subcase(BROAD, other, one))
        self.assertEqual(subcase(BROAD, *LATE.pairs()), BROAD)
        self.assertEqual([len(subcase(BROAD)), subcase(BROAD).nodes, subcase(BROAD).places], [0, 3, {}])

    def test_each_kind_of_place(self):
        placement = FAR.with_rules("cus", FIRST, ("by", "s", ("town",))).with_rules("ord", ANY)
        case = case_with(placement, LATE.rows, 4, {("by", "s", (5,)): 3, ("any", "ord", (1, 9, 3)): 2, ("by", "t", (9,)): 1})
        told = subcase(case, ("ord", (1, 9, 3)))
        self.assertEqual(told.places, {("any", "ord", (1, 9, 3)): 2, ("by", "s", (5,)): 3, ("by", "t", (9,)): 1, FIRST: 0})

    def test_errors(self):
        for value in odd_but(Case):
            self.assertEqual(told_error(subcase, value, None), (InvalidCase,))
            self.assertEqual(told_error(is_subcase, value, None), (InvalidCase,))
        good = ("cus", (1, 5))
        for value in (None, ("cus",), ("cus", (1,)), ["cus", (1, 5)], ("cus", (1, True)), ("x", (1,)), 5, ("cus", [1, 5])):
            self.assertEqual(told_error(subcase, BROAD, good, value, ("cus", (7, 7))), (InvalidRow,))
        self.assertEqual(told_error(subcase, BROAD, good, ("cus", (7, 7)), None), (MissingRow, (7, 7)))


class IsSubcaseTest(unittest.TestCase):
    def test_subcases(self):
        for case in naive.all_subcases(BROAD):
            self.assertIs(is_subcase(BROAD, case), True)
            self.assertIs(is_subcase(case, BROAD), case == BROAD)
            self.assertIs(is_subcase(BROAD, case.with_nodes(4)), False)

    def test_other_nodes_and_rows(self):
        case = subcase(BROAD, ("ord", (1, 9, 3)))
        for place in case.places:
            moved = Case.of_places(FAR, case.database, 3, {**case.places, place: 1})
            self.assertIs(is_subcase(BROAD, moved), False)
        other = case_with(FAR, {**DAY.rows, "cus": ((1, 6),)}, 3, case.places)
        self.assertIs(is_subcase(BROAD, other), False)
        self.assertIs(is_subcase(BROAD, SPLIT), False)
        self.assertIs(is_subcase(BROAD, Case.single(NEAR, Database(SHOP)).with_nodes(3)), False)
        self.assertIs(is_subcase(BROAD, Case.single(FAR, Database(SHOP)).with_nodes(3)), True)

    def test_other_values(self):
        for value in (*odd_but(Case), LATE, BROAD.database.pairs(), (BROAD,), Case.single(bans(), Database(BANS))):
            self.assertIs(is_subcase(BROAD, value), False)


class IsTightTest(unittest.TestCase):
    def test_constant(self):
        self.assertEqual(tight.MAX_BLOCKING, 8)

    def test_by_search(self):
        told = {True: 0, False: 0}
        for _, query, case in counterexamples(12, 6):
            wanted = by_search(query, case)
            told[wanted] += 1
            self.assertIs(is_tight(query, case), wanted)
        self.assertGreater(min(told.values()), 10)

    def test_right_cases_and_other_values(self):
        self.assertIs(is_tight(TOWNS, Case.single(FAR, DAY)), False)
        self.assertIs(is_tight(PRICES, SPLIT), False)
        for value in (*odd_but(Case), (SPLIT,), Case.single(bans(), Database(BANS)), DAY):
            self.assertIs(is_tight(TOWNS, value), False)

    def test_a_row_too_much(self):
        self.assertIs(is_tight(TOWNS, SPLIT), True)
        more = case_with(FAR, {**DAY.rows, "item": ((8, 8), (9, 7))}, 2, {("by", "t", (9,)): 1})
        self.assertIs(is_tight(TOWNS, more), False)

    def test_rows_of_absences(self):
        # The match is told by the nodes that lack the one blocking row; more of them are not needed.
        query = asked("distinct", ("r", ("f", "g")))
        for many in (1, 2, 8, 9):
            rows = {"p": ((0, 0),), "r": tuple([(at, 0) for at in range(many)])}
            case = case_with(bans(p=(ALL,)), rows, 9, {("any", "r", (at, 0)): at % 9 for at in range(1, many)})
            self.assertIs(is_tight(query, case), many == 1)

    def test_eight_rows_and_nine(self):
        # All matches are blocked, but one of them not on node 0: its rows and the row that blocks it are enough.
        schema = Schema({"a": ("x",), "b": ("y",), "c": ("x", "y")})
        query = Query(schema, "distinct", Clause((("a", ("x",)), ("b", ("y",))), absences=(("c", ("x", "y")),)))
        placement = Placement(schema, a=(ALL,), b=(ALL,), c=(ANY,))
        for many, told in ((7, True), (8, True), (9, False)):
            rows = {"a": tuple([(at,) for at in range(many)]), "b": ((0,),), "c": tuple([(at, 0) for at in range(many)])}
            case = case_with(placement, rows, 2, {("any", "c", (0, 0)): 1})
            self.assertIs(is_counterexample(placement, query, case), True)
            self.assertIs(is_tight(query, case), False)
            small = subcase(case, ("a", (0,)), ("b", (0,)), ("c", (0, 0)))
            self.assertIs(is_tight(query, small), True)
            self.assertIs(told_error(tightened, query, case) is None, told)

    def test_tight_counterexamples_with_eight_rows_and_nine(self):
        # The rows of e have two parents that lie apart, and tell their head on each node where no row of n blocks them.
        schema = Schema({"a": ("k",), "b": ("k",), "e": ("k",), "n": ("k", "x")}, keys={"a": (("k",),), "b": (("k",),)},
                        references={"ea": ("e", ("k",), "a", ("k",)), "eb": ("e", ("k",), "b", ("k",))})
        query = Query(schema, "distinct", Clause((("e", ("k",)), ("a", ("k",)), ("b", ("k",)))),
                      Clause((("e", ("k",)),), absences=(("n", ("k", "f")),)))
        placement = Placement(schema, a=(("by", "s", ("k",)),), b=(("by", "t", ("k",)),), e=(ALL,), n=(ANY,))
        for many, told in ((8, True), (9, False)):
            rows = {"a": ((0,),), "b": ((0,),), "e": ((0,),), "n": tuple([(0, at) for at in range(many)])}
            places = {("any", "n", (0, at)): at for at in range(many)}
            case = case_with(placement, rows, many, {**places, ("by", "t", (0,)): 1})
            self.assertEqual(case.difference(query), {(): (0, 1)})
            self.assertIs(is_tight(query, case), told)
            if told:
                self.assertIs(by_search(query, case), True)
                self.assertEqual(tightened(query, case), case)
            else:
                self.assertEqual(told_error(tightened, query, case), (TooMany, 8))

    def test_many_rows_can_be_needed(self):
        # How many blocking rows a counterexample needs is told by a search.
        schema = Schema({"a": ("x",), "c": ("x", "y")})
        placement = Placement(schema, a=(ALL,), c=(ANY,))
        query = Query(schema, "count", Clause((("a", ("x",)),), absences=(("c", ("x", "f")),)))
        lost = Query(schema, "distinct", Clause((("a", ("x",)),), absences=(("c", ("x", "f")),), head=("x",)),
                     Clause((("a", ("x",)), ("a", ("y",))), absences=(("c", ("x", "f")), ("c", ("y", "f"))), head=("x",)))
        for many in (2, 3):
            rows = {"a": ((0,),), "c": tuple([(0, at) for at in range(many)])}
            case = case_with(placement, rows, many, {("any", "c", (0, at)): at for at in range(many)})
            self.assertIs(is_tight(query, case), by_search(query, case))
            self.assertIs(is_tight(lost, case), by_search(lost, case))

    def test_too_many_matches(self):
        query = Query(SHOP, "count", Clause((("item", ("i", "p")), ("item", ("j", "q")))))
        large = case_with(NEAR, {"item": tuple([(at, 0) for at in range(45)])}, 2, {})
        self.assertIs(is_tight(query, large), False)

    def test_errors(self):
        for value in odd_but(Query):
            self.assertEqual(told_error(is_tight, value, None), (InvalidQuery,))


class TightenedTest(unittest.TestCase):
    def test_small_counterexamples(self):
        for placement, query, case in counterexamples(12, 8):
            found = tightened(query, case)
            self.assertIs(is_subcase(case, found), True)
            self.assertIs(is_counterexample(placement, query, found), True)
            self.assertIs(is_tight(query, found), True)
            self.assertIs(by_search(query, found), True)

    def test_large_counterexamples(self):
        source = random.Random(2)
        for placement, query in kinds():
            for _ in range(4):
                case = some_case(source, placement, 30, 4, range(12))
                absent = {table for clause in query for table, _ in clause.absences}
                if not case.is_right(query) and sum(len(case.database[table]) for table in absent) <= 8:
                    found = tightened(query, case)
                    self.assertIs(is_subcase(case, found), True)
                    self.assertIs(is_tight(query, found), True)
                    self.assertLessEqual(len(found), 10)

    def test_sums_that_even_out(self):
        # Each row of price 1 is counted twice, and so is the one of price -2: only some of them together even out.
        query = Query(SHOP, "sum", Clause((("item", ("i", "p")),), summed="p"))
        rows = {"item": ((1, 1), (2, 1), (3, -2), (4, 6))}
        case = case_with(NEAR, rows, 2, {})
        self.assertEqual(case.difference(query), {(): (12, 6)})
        self.assertEqual(len(tightened(query, case)), 1)

    def test_a_hundred_rows(self):
        rows = {"item": tuple([(at, at % 3) for at in range(90)]), "cus": tuple([(at, 0) for at in range(10)])}
        case = case_with(NEAR, rows, 9, {})
        self.assertEqual([len(tightened(PRICES, case)), is_tight(PRICES, case)], [1, False])

    def test_errors(self):
        right = Case.single(FAR, DAY)
        for call in (tightened, small_case_of):
            for value in odd_but(Query):
                self.assertEqual(told_error(call, value, None), (InvalidQuery,))
            for value in odd_but(Case):
                self.assertEqual(told_error(call, TOWNS, value), (InvalidCase,))
            self.assertEqual(told_error(call, asked("count"), SPLIT), (InvalidOperation,))
            self.assertEqual(told_error(call, TOWNS, right), (InvalidOperation,))
            query = Query(SHOP, "count", Clause((("item", ("i", "p")), ("item", ("j", "q")))))
            large = case_with(FAR, {"item": tuple([(at, 0) for at in range(45)])}, 2, {})
            self.assertEqual(told_error(call, query, large), (TooMany, 2000))

    def test_order_of_the_last_errors(self):
        query = asked("count", ("r", ("k", "f")))
        rows = {"p": ((1, 1),), "r": tuple([(7, at) for at in range(9)])}
        two = bans(p=(ALL,), r=(("by", "s", ("x",)), FIRST))
        wrong, right = case_with(two, rows, 2, {}), case_with(two, rows, 1, {})
        self.assertEqual([told_error(call, query, right) for call in (tightened, small_case_of)], [(InvalidOperation,)] * 2)
        self.assertEqual(told_error(tightened, query, wrong), (TooMany, 8))
        # The table of the absence has two rules.
        self.assertEqual(told_error(small_case_of, query, wrong), (InvalidOperation,))
        fewer = case_with(two, {**rows, "r": rows["r"][:8]}, 2, {})
        self.assertEqual(len(tightened(query, fewer)), 1)
        long = Query(WIDE, "count", Clause((("t", ("x", "y", "z")), ("t", ("u", "v", "w")), ("t", ("p", "q", "r")))))
        wide = Placement(WIDE, t=(ALL,), u=(ALL,))
        case = case_with(wide, {"t": ((1, 1, 1),), "u": ((1,),)}, 2, {})
        self.assertEqual(told_error(small_case_of, long, case), (TooMany, 7))
        self.assertEqual(len(tightened(long, case)), 2)
        self.assertEqual(told_error(small_case_of, long, case_with(wide, {}, 2, {})), (InvalidOperation,))


class SmallCaseOfTest(unittest.TestCase):
    def check(self, placement, query, case):
        found = small_case_of(query, case)
        self.assertIs(is_counterexample(placement, query, found), True)
        self.assertIs(is_small_case(placement, query, found), True)
        apart = query.form == "distinct" and not any(clause.absences for clause in query)
        self.assertTrue(any(self.fits(query, case, found, index, match, apart) for index in range(len(query))
                            for match in open_matches(query, index, case.database.rows)))

    def fits(self, query, case, found, index, match, apart):
        """Whether a small case has the pattern of this open match, and its places in parts are one node where they are."""
        pattern = pattern_of(query, index, case.database, match)
        absent = {table for clause in query for table, _ in clause.absences}
        rows = {table: told for table, told in found.database.rows.items() if table not in absent}
        if any(pattern.database[table] != rows[table] for table in rows):
            return False
        values = {pattern.match[name]: match[name] for name in match}
        # Symbols are found by going from rows to their parents.
        pairs = [(table, tuple(values_of(pattern.match, terms))) for table, terms in query.clauses[index].parts]
        before = [(table, tuple(values_of(match, terms))) for table, terms in query.clauses[index].parts]
        for (table, row), (_, old) in zip(pairs, before):
            for name in query.schema.references_of(table):
                parent = query.schema.references[name][2]
                new, told = pattern.database.parent_of(name, row), case.database.parent_of(name, old)
                values.update(zip(new, told))
                pairs.append((parent, new))
                before.append((parent, told))
        tables = {table for clause in query for table, _ in clause.parts}
        places = {place for table, row in pairs if table in tables
                  for place in found.placement.places_of(found.database, table, row)} - {ALL}
        old = {place: place if place == FIRST else (*place[:2], tuple(values.get(number, number) for number in place[2]))
               for place in places}
        return apart or all((found.places[one] == found.places[other]) == (case.places[old[one]] == case.places[old[other]])
                            for one in places for other in places)

    def test_small_counterexamples(self):
        for placement, query, case in counterexamples(12, 8):
            if all(len(placement[table]) == 1 for clause in query for table, _ in clause.absences):
                self.check(placement, query, case)

    def test_large_counterexamples(self):
        source = random.Random(4)
        for placement, query in kinds():
            for _ in range(3):
                case = some_case(source, placement, 40, 4, range(12))
                if all(len(placement[table]) == 1 for clause in query for table, _ in clause.absences):
                    if not case.is_right(query):
                        self.check(placement, query, case)

    def test_places_apart_that_were_one_node(self):
        schema = Schema({"a": ("k",), "b": ("k",), "c": ("k",)})
        placement = Placement(schema, a=(("by", "s", ("k",)),), b=(("by", "t", ("k",)),), c=(ANY,))
        query = Query(schema, "distinct", Clause((("a", ("x",)), ("b", ("y",)), ("c", ("z",)))))
        case = case_with(placement, {"a": ((1,),), "b": ((1,),), "c": ((2,),)}, 2, {("any", "c", (2,)): 1})
        self.check(placement, query, case)
        self.assertEqual(small_case_of(query, case).nodes, 3)
        counted = Query(schema, "count", *query)
        self.check(placement, counted, case)
        self.assertEqual(len(set(small_case_of(counted, case).places.values())), 2)

    def test_many_blocking_rows(self):
        query = asked("count", ("r", ("k", "f")), head=("x",))
        rows = {"p": tuple([(at, at % 2) for at in range(20)]), "r": tuple([(at % 20, at) for at in range(60)])}
        source = random.Random(9)
        placement = bans()
        wanted = placement.places_in(Database(BANS, rows))
        case = Case.of_places(placement, Database(BANS, rows), 5, {place: source.randrange(5) for place in wanted})
        self.assertIs(is_counterexample(placement, query, case), True)
        self.check(placement, query, case)
        self.assertEqual(told_error(tightened, query, case), (TooMany, 8))


def values_of(match, terms):
    return [match.get(term, term) for term in terms]


class ExampleTest(unittest.TestCase):
    def test_example(self):
        self.assertEqual([is_tight(TOWNS, SPLIT), is_tight(TOWNS, BROAD), len(tightened(TOWNS, BROAD))], [True, False, 3])
        self.assertEqual([subcase(BROAD, ("ord", (1, 9, 3))).database == DAY, small_case_of(TOWNS, BROAD).database["item"]],
                         [True, ((8000000000000000, 7),)])


if __name__ == "__main__":
    unittest.main()
