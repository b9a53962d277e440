"""[0.13], [0.14], [0.15] and Query of stage 4."""

import unittest

from dealtrows.ask.queries import Clause, Query
from dealtrows.base.answers import Answer
from dealtrows.base.databases import Database
from dealtrows.base.schemas import Schema
from dealtrows.errors import InvalidClause, InvalidDatabase, InvalidNumber, InvalidOperation, InvalidQuery
from dealtrows.errors import InvalidSchema, TooMany
from samples import DAY, IDLE, PRICES, SHOP, TOWNS, odd_values, shop_again

FORMS = ("distinct", "count", "sum")
CUS = Clause((("cus", ("c", "t")),), head=("t",))
ITEM = Clause((("item", ("i", "p")),), head=("p",))
# ban has the key of a and b; lone has no references.
BANS = Schema(
    {"a": ("x", "y"), "b": ("k",), "ban": ("a", "b", "c"), "lone": ("p", "q", "r"), "top": ("k", "up")},
    keys={"b": (("k",),), "lone": (("p",), ("q", "r")), "ban": (("a", "b"),), "top": (("k",),)},
    references={"bb": ("ban", ("b",), "b", ("k",)), "at": ("a", ("x",), "top", ("k",))})


def bans(*absences, parts=(("a", ("x", "y")), ("b", ("y",))), head=()):
    """A clause over the schema with absences."""
    return Clause(parts, absences=absences, head=head)


def sums(clause, summed=1):
    """The clause with a summed term."""
    return Clause(clause.parts, tests=clause.tests, absences=clause.absences, head=clause.head, summed=summed)


class Refusing(unittest.TestCase):
    def refuse(self, *clauses, schema=SHOP, form="count", error=InvalidQuery):
        with self.assertRaises(error):
            Query(schema, form, *clauses)
        with self.assertRaises(error):
            Query.of(schema, form, clauses)

    def accept(self, *clauses, schema=SHOP, form="count"):
        query = Query(schema, form, *clauses)
        self.assertEqual(query.clauses, clauses)
        self.assertEqual(query, Query.of(schema, form, clauses))
        return query


class MakingTest(Refusing):
    def test_one_to_three_clauses(self):
        for count in (1, 2, 3):
            self.assertEqual(len(self.accept(*[CUS] * count)), count)
        self.refuse()
        self.refuse(*[CUS] * 4)

    def test_heads_of_unlike_length(self):
        self.accept(CUS, ITEM)
        self.accept(CUS.with_head(()), ITEM.with_head(()))
        self.refuse(CUS, ITEM.with_head(()))
        self.refuse(CUS, ITEM, CUS.with_head(("c", "t")))

    def test_summed_terms_by_form(self):
        self.accept(sums(CUS), sums(ITEM, "i"), form="sum")
        self.accept(sums(CUS, 0), form="sum")
        self.refuse(CUS, form="sum")
        self.refuse(sums(CUS), ITEM, form="sum")
        for form in ("distinct", "count"):
            self.accept(CUS, ITEM, form=form)
            self.refuse(sums(CUS), form=form)
            self.refuse(CUS, sums(ITEM, 0), form=form)

    def test_tables_that_do_not_fit(self):
        for part in (("cus", ("c",)), ("cus", ("c", "t", "u")), ("no", ("c", "t")), ("ord", ("c", "t")), ("code", ("c",))):
            self.refuse(Clause((part,)))
            self.refuse(Clause((("cus", ("c", "t")), part)))
            self.refuse(Clause((part,)), CUS.with_head(()))
            self.refuse(CUS.with_head(()), Clause((part,)))
        self.refuse(CUS.with_absence("no", ("c",)))
        self.refuse(IDLE.without_absences().with_absence("ord", ("c", "i")))
        self.refuse(IDLE.without_absences().with_absence("ord", ("c", "i", "n", "m")))

    def test_four_named_integers(self):
        tests = (("c", "!=", 1), (2, "!=", "t"), ("t", "!=", 1))
        self.assertEqual(self.accept(CUS.with_tests(*tests, ("c", "!=", 3))).integers, (1, 2, 3))
        four = Clause((("item", ("i", 4)),), tests=(("i", "!=", -1), ("i", "!=", 0), ("i", "!=", 9)))
        self.assertEqual(self.accept(four).integers, (-1, 0, 4, 9))
        self.refuse(four.with_tests(("i", "=", 5)))
        self.refuse(four, Clause((("cus", (5, "t")),)))
        self.accept(four, Clause((("cus", (9, "t")),)))

    def test_integers_of_absences_are_named(self):
        absence = IDLE.without_absences().with_absence("ord", ("c", "i", 8))
        self.assertEqual(self.accept(absence).integers, (8,))
        tests = (("c", "!=", 1), ("c", "!=", 2), ("c", "!=", 3), ("c", "!=", 4))
        self.refuse(absence.with_tests(*tests))
        self.accept(absence.with_tests(*tests[:3]))

    def test_summed_integers_are_not_named(self):
        clause = Clause(CUS.parts, tests=(("c", "!=", 1), (2, "!=", 3), ("t", "=", 4)), head=("t",), summed=5)
        self.assertEqual(self.accept(clause, form="sum").integers, (1, 2, 3, 4))


class AbsencesTest(Refusing):
    """The four rules of [0.15]."""

    def test_kept(self):
        for absence in (("ban", ("x", "y", "f")), ("ban", ("f", "y", "x")), ("ban", ("f", "y", "g")),
                        ("lone", ("f", "g", "h")), ("lone", ("x", "f", 3))):
            self.accept(bans(absence), schema=BANS)

    def test_no_table_of_a_part(self):
        self.refuse(bans(("a", ("x", "f"))), schema=BANS)
        self.refuse(bans(("b", ("x",))), schema=BANS)
        other = Clause((("lone", ("x", "y", "z")),))
        self.refuse(bans(("lone", ("x", "f", "g"))), other, schema=BANS)
        self.refuse(other, bans(("lone", ("x", "f", "g"))), schema=BANS)

    def test_no_way_from_a_part(self):
        self.refuse(bans(("top", ("x", "f"))), schema=BANS)
        self.refuse(bans(("top", ("x", "f")), parts=(("b", ("x",)),)), Clause((("a", ("x", "y")),)), schema=BANS)
        self.accept(bans(("top", ("x", "f")), parts=(("b", ("x",)),)), Clause((("b", ("x",)),)), schema=BANS)

    def test_no_long_way_from_a_part(self):
        tables = {name: ("k",) for name in "abcd"}
        chain = Schema(tables, keys={name: (("k",),) for name in "abcd"}, references={
            "ab": ("a", ("k",), "b", ("k",)), "bc": ("b", ("k",), "c", ("k",))})
        self.refuse(Clause((("a", ("x",)),), absences=(("c", ("x",)),)), schema=chain)
        self.accept(Clause((("a", ("x",)),), absences=(("d", ("x",)),)), schema=chain)
        self.accept(Clause((("c", ("x",)),), absences=(("d", ("x",)),)), schema=chain)

    def test_parents_among_the_parts(self):
        self.accept(IDLE)
        self.refuse(Clause((("cus", ("c", "t")),), absences=(("ord", ("c", "i", "n")),)))
        for parts in ((("cus", ("c", "t")), ("item", ("i", "p"))), (("item", ("i", 7)), ("cus", ("c", "i")))):
            self.accept(Clause(parts, absences=(("ord", ("c", "i", "n")),)))
            for terms in (("i", "c", "n"), ("c", "n", "i"), ("n", "i", "c"), ("c", 7, "n"), ("c", "c", "n")):
                self.refuse(Clause(parts, absences=(("ord", terms),)))
        self.refuse(Clause((("cus", ("c", "t")), ("item", ("i", "p"))), tests=(("c", "=", "t"),),
                           absences=(("ord", ("t", "i", "n")),)))

    def test_integers_of_parents(self):
        parts = (("cus", (3, "t")), ("item", ("i", 7)))
        self.accept(Clause(parts, absences=(("ord", (3, "i", "n")),)))
        self.refuse(Clause(parts, absences=(("ord", (7, "i", "n")),)))
        self.refuse(Clause(parts, absences=(("ord", ("t", "i", "n")),)))

    def test_parents_in_the_same_clause(self):
        parts = (("cus", ("c", "t")), ("item", ("i", "p")))
        self.refuse(Clause(parts), Clause(parts[:1], absences=(("ord", ("c", "i", "n")),)))
        self.refuse(Clause(parts, absences=(("ord", ("c", "i", "n")),)),
                    Clause(parts[:1], absences=(("ord", ("c", "i", "n")),)))

    def test_columns_of_a_parent_in_the_order_of_the_key(self):
        schema = Schema({"a": ("p", "q"), "b": ("k", "v")}, keys={"b": (("k", "v"),)},
                        references={"r": ("a", ("q", "p"), "b", ("k", "v"))})
        self.accept(Clause((("b", ("x", "y")),), absences=(("a", ("y", "x")),)), schema=schema)
        self.refuse(Clause((("b", ("x", "y")),), absences=(("a", ("x", "y")),)), schema=schema)

    def test_keys_that_are_tied_in_both(self):
        # The keys of lone are p, and q with r.
        apart = bans(("lone", ("x", "f", "g")), ("lone", ("f", "x", "y")))
        self.accept(apart, schema=BANS)
        self.accept(bans(("lone", ("x", "f", "g")), ("lone", ("y", "f", "g"))), schema=BANS)
        self.refuse(bans(("lone", ("x", "f", "g")), ("lone", ("x", "y", "g"))), schema=BANS)
        self.refuse(bans(("lone", ("x", "y", "y")), ("lone", ("f", "x", "y"))), schema=BANS)
        self.accept(bans(("lone", ("f", "y", "g")), ("lone", ("f", "x", "y"))), schema=BANS)
        self.accept(bans(("lone", ("f", "y", "g")), ("lone", ("f", "g", "y"))), schema=BANS)

    def test_keys_that_are_tied_in_absences_of_two_clauses(self):
        one, other = bans(("ban", ("x", "y", "f"))), bans(("ban", ("x", "y", "y")))
        self.accept(one, bans(("ban", (3, "y", "g"))), schema=BANS)
        self.accept(one, bans(("ban", ("f", "y", "x"))), schema=BANS)
        self.refuse(one, other, schema=BANS)
        self.refuse(other, bans(), one, schema=BANS)

    def test_integers_are_tied(self):
        self.refuse(bans(("lone", (3, "f", "g")), ("lone", (4, 5, "g"))), schema=BANS)
        self.accept(bans(("lone", (3, "f", "g")), ("lone", ("f", 5, "g"))), schema=BANS)

    def test_a_name_that_is_free_in_one_clause_only(self):
        one = bans(("lone", ("x", "z", "g")))
        other = bans(("lone", ("x", "z", "g")), parts=(("b", ("x",)), ("b", ("z",))))
        self.accept(one, schema=BANS)
        self.accept(other, schema=BANS)
        self.refuse(one, other, schema=BANS)

    def test_absences_of_two_tables(self):
        schema = Schema({"a": ("x", "y"), "b": ("k", "v"), "c": ("k", "v")}, keys={"b": (("k",),), "c": (("k",),)})
        parts = (("a", ("x", "y")),)
        self.accept(Clause(parts, absences=(("b", ("x", "f")), ("c", ("x", "y")))), schema=schema)
        self.refuse(Clause(parts, absences=(("b", ("x", "f")), ("b", ("x", "y")))), schema=schema)

    def test_tables_without_keys(self):
        schema = Schema({"a": ("x",), "b": ("p", "q")})
        self.accept(Clause((("a", ("x",)),), absences=(("b", ("x", "f")), ("b", ("x", "x")))), schema=schema)


class ErrorsTest(Refusing):
    def test_the_first_error_that_is_due(self):
        for schema in odd_values():
            if not isinstance(schema, Schema):
                self.refuse(3, schema=schema, form=4, error=InvalidSchema)
        for form in (*odd_values(), "counts", "Count", ("count",)):
            self.refuse(3, form=form, error=InvalidQuery)
            self.refuse(CUS, form=form, error=InvalidQuery)
        for value in (*odd_values(), (CUS,), PRICES):
            if not isinstance(value, Clause):
                self.refuse(value, error=InvalidClause)
                self.refuse(CUS, ITEM.with_head(()), value, error=InvalidClause)
                self.refuse(CUS, CUS, CUS, CUS, value, error=InvalidClause)

    def test_clauses_that_are_no_tuple(self):
        for clauses in ([CUS], CUS, None, {0: CUS}, 1, True, "", PRICES):
            with self.assertRaises(InvalidQuery):
                Query.of(SHOP, "count", clauses)
            with self.assertRaises(InvalidSchema):
                Query.of(1, "count", clauses)
            with self.assertRaises(InvalidQuery):
                Query.of(SHOP, "no", clauses)


class ToldTest(unittest.TestCase):
    def test_forms(self):
        self.assertEqual((Query.FORMS, TOWNS.FORMS), (FORMS, FORMS))
        for form in FORMS:
            self.assertIs(Query.is_form(form), True)
            self.assertIs(TOWNS.is_form(form), True)
        for value in (*odd_values(), "counts", "COUNT", ("count",), ["sum"], 0, 1, "c"):
            self.assertIs(Query.is_form(value), False)

    def test_properties(self):
        self.assertEqual((TOWNS.schema, TOWNS.form, len(TOWNS.clauses)), (SHOP, "distinct", 1))
        self.assertEqual((TOWNS.integers, TOWNS.width, PRICES.integers), ((7,), 1, ()))
        self.assertEqual(Query(SHOP, "count", CUS.with_head(())).width, 0)
        self.assertEqual(Query(SHOP, "count", CUS.with_head(("c", "t", "c"))).width, 3)

    def test_clauses(self):
        query = Query(SHOP, "count", CUS, ITEM, CUS)
        self.assertEqual((list(query), len(query), query.clauses), ([CUS, ITEM, CUS], 3, (CUS, ITEM, CUS)))
        self.assertIs(Clause(ITEM.parts, head=("p",)) in query, True)
        for value in (*odd_values(), ITEM.with_head(()), (CUS,), ITEM.parts, query):
            self.assertIs(value in query, False)
        with self.assertRaises(TypeError):
            query[0]

    def test_text(self):
        self.assertEqual(str(Query(SHOP, "count", CUS, ITEM)), "count query of 2 clauses")
        self.assertEqual(str(TOWNS), "distinct query of 1 clauses")

    def test_equality(self):
        query = Query(SHOP, "count", CUS, ITEM)
        same = Query(shop_again(), "count", Clause(CUS.parts, head=("t",)), ITEM)
        self.assertTrue(query == same)
        self.assertFalse(query != same)
        for other in (Query(SHOP, "distinct", CUS, ITEM), Query(SHOP, "count", ITEM, CUS), Query(SHOP, "count", CUS),
                      Query(SHOP.without_reference("oc"), "count", CUS, ITEM)):
            self.assertFalse(query == other)
            self.assertTrue(query != other)
        for value in (*odd_values(), (CUS, ITEM), str(query)):
            self.assertIs(query == value, False)
            self.assertIs(query != value, True)

    def test_only(self):
        query = Query(SHOP, "count", CUS, ITEM)
        self.assertEqual((query.only(0), query.only(1)), (Query(SHOP, "count", CUS), Query(SHOP, "count", ITEM)))
        for index in (-1, 2, True, False, "0", None, (0,), [0], 10 ** 60, 10 ** 99, *odd_values()):
            with self.assertRaises(InvalidNumber) as caught:
                query.only(index)
            self.assertIs(caught.exception.value, index)

    def test_sum_of_queries(self):
        one, other = Query(SHOP, "count", CUS), Query(shop_again(), "count", ITEM, CUS)
        self.assertEqual(one + other, Query(SHOP, "count", CUS, ITEM, CUS))
        self.assertEqual(other + one, Query(SHOP, "count", ITEM, CUS, CUS))
        self.assertEqual((len(one), len(other)), (1, 2))
        held = one
        held += other
        self.assertEqual((len(held), len(one)), (3, 1))

    def test_sum_with_other_values(self):
        one = Query(SHOP, "count", CUS)
        for value in (*odd_values(), CUS, (CUS,), 1, None, Query(SHOP, "distinct", CUS),
                      Query(SHOP, "count", CUS.with_head(())), Query(SHOP.without_reference("oc"), "count", CUS),
                      Query(SHOP, "sum", sums(CUS))):
            with self.assertRaises(InvalidOperation):
                one + value

    def test_sum_that_is_no_query(self):
        two = Query(SHOP, "count", CUS, ITEM)
        with self.assertRaises(InvalidQuery):
            two + two
        orders = Query(SHOP, "count", Clause((("ord", ("c", "i", "n")),), head=("c",)))
        with self.assertRaises(InvalidQuery):
            Query(SHOP, "count", IDLE) + orders
        named = [Query(SHOP, "count", CUS.with_tests(("c", "!=", at), ("c", "!=", at + 1))) for at in (1, 3, 5)]
        self.assertEqual((named[0] + named[1]).integers, (1, 2, 3, 4))
        with self.assertRaises(InvalidQuery):
            named[0] + named[1] + named[2]


class GlobalAnswerTest(unittest.TestCase):
    def test_answers(self):
        self.assertEqual(TOWNS(DAY), Answer("distinct", {(5,): 1}))
        self.assertEqual(PRICES(DAY), Answer("count", {(7,): 1}))
        self.assertEqual(PRICES(Database(SHOP)), Answer("count"))
        self.assertEqual(Query(SHOP, "count", IDLE)(DAY), Answer("count"))
        more = Database(SHOP, {"cus": ((1, 5), (2, 5)), "item": ((9, 7),), "ord": ((1, 9, 3),)})
        self.assertEqual(Query(SHOP, "count", IDLE)(more), Answer("count", {(2,): 1}))

    def test_values_that_are_no_database_of_the_schema(self):
        for value in (*odd_values(), DAY.rows, Database(SHOP.without_reference("oc")), None):
            if not (isinstance(value, Database) and value.schema == SHOP):
                with self.assertRaises(InvalidDatabase):
                    TOWNS(value)

    def test_limit_of_open_matches(self):
        twice = Query(SHOP, "count", Clause((("cus", ("c", "t")), ("item", ("i", "p")))))
        rows = {"cus": tuple([(code, 0) for code in range(40)]), "item": tuple([(code, 0) for code in range(50)])}
        database = Database(SHOP, rows)
        self.assertEqual(twice(database)[()], 2000)
        pair = Clause((("cus", ("c", "t")), ("cus", ("d", "t"))))
        self.assertEqual((Query(SHOP, "count", pair) + twice)(database)[()], 3600)
        with self.assertRaises(TooMany) as caught:
            twice(database.with_row("cus", (99, 0)))
        self.assertEqual(caught.exception.limit, 2000)
        with self.assertRaises(TooMany):
            (Query(SHOP, "count", pair) + twice)(database.with_row("cus", (99, 0)))


class ExampleTest(unittest.TestCase):
    def test_example(self):
        self.assertEqual(str(Query(SHOP, "count", IDLE)), "count query of 1 clauses")
        without = Clause((("cus", ("c", "t")),), absences=IDLE.absences, head=("c",))
        with self.assertRaises(InvalidQuery):
            Query(SHOP, "count", without)


if __name__ == "__main__":
    unittest.main()
