"""[0.10], [3.1] and is_rows, first_broken, Database of stage 3."""

import random
import unittest

from dealtrows.base import databases
from dealtrows.base.databases import Database, first_broken, is_rows
from dealtrows.base.schemas import Schema
from dealtrows.errors import BrokenConstraint, InvalidDatabase, InvalidOperation, InvalidRow, InvalidSchema
from dealtrows.errors import MissingRow, TooMany, UnknownName
from samples import DAY, IDLE, SHOP, SIXTY, SIXTY_ONE, TOWNS, odd_values, shop_again, told_error

ROWS = {"cus": ((2, 5), (1, 5)), "item": ((9, 7), (8, 7)), "ord": ((2, 8, 4), (1, 9, 3), (1, 8, 5))}
FULL = Database(SHOP, ROWS)
# c leads to b, b to a, and c to a by its other column, too.
CHAIN = Schema(
    {"a": ("k",), "b": ("k", "up"), "c": ("up", "via")}, keys={"a": (("k",),), "b": (("k",),)},
    references={"ba": ("b", ("up",), "a", ("k",)), "ca": ("c", ("up",), "a", ("k",)), "cb": ("c", ("via",), "b", ("k",))})
# Keys of two columns, one key within another, and columns of a reference in another order.
TWO_KEYS = Schema(
    {"a": ("k",), "b": ("k", "m"), "c": ("p", "q", "r")}, keys={"a": (("k",),), "b": (("k",), ("k", "m")), "c": (("p", "r"), ("q", "r"))},
    references={"ba": ("b", ("m",), "a", ("k",)), "ca": ("c", ("r",), "a", ("k",)),
                "cb": ("c", ("q", "p"), "b", ("k", "m"))})
LINE = Database(CHAIN, {"a": ((1,), (2,)), "b": ((5, 1), (6, 2)), "c": ((1, 5), (1, 6), (2, 6))})


def many(count):
    """A dict with so many rows of cus."""
    return {"cus": tuple([(code, 0) for code in range(count)])}


class RowsTest(unittest.TestCase):
    def test_constant(self):
        self.assertEqual(databases.MAX_ROWS, 100)

    def test_rows(self):
        for value in ({}, {"cus": ()}, ROWS, {"cus": ((SIXTY, -SIXTY),)}, {"ord": ((1, 2, 3),)}, many(300),
                      {"cus": ((1, 5), (1, 6))}):
            self.assertIs(is_rows(SHOP, value), True, value)

    def test_no_rows(self):
        for value in ({"cus": ((1, 5), (1, 5))}, {"cus": ((1,),)}, {"cus": ((1, 2, 3),)}, {"cus": [(1, 5)]},
                      {"cus": ((1, 5), [1, 6])}, {"cus": ((True, 5),)}, {"cus": ((1, SIXTY_ONE),)}, {"cus": (1, 5)},
                      {"town": ()}, {"code": ((1,),)}, {1: ()}, {"cus": None}, {"cus": ((1, "a"),)}, {"cus": {}},
                      {"cus": {(1, 5): 1}}, {"cus": (([], 1),)}, {("cus",): ()}, {None: ()}, (), "cus", DAY, DAY.pairs()):
            self.assertIs(is_rows(SHOP, value), False, value)
        for value in odd_values():
            self.assertIs(is_rows(SHOP, value), False, value)
            self.assertIs(is_rows(SHOP, {"cus": value}), False, value)
            self.assertIs(is_rows(SHOP, {"cus": (value,)}), False, value)

    def test_wrong_schema_comes_first(self):
        for schema in odd_values():
            if not isinstance(schema, Schema):
                for call in (is_rows, first_broken, Database):
                    for rows in ({}, 1):
                        with self.assertRaises(InvalidSchema):
                            call(schema, rows)
                with self.assertRaises(InvalidSchema):
                    Database.empty(schema)


class BrokenTest(unittest.TestCase):
    def test_none(self):
        for rows in ({}, ROWS, many(300), {"cus": ()}):
            self.assertIsNone(first_broken(SHOP, rows))

    def test_key(self):
        self.assertEqual(first_broken(SHOP, {"cus": ((1, 5), (1, 6))}), ("key", "cus", ("code",)))
        rows = {**ROWS, "ord": ((1, 9, 3), (2, 8, 3))}
        self.assertEqual(first_broken(SHOP, rows), ("key", "ord", ("no",)))

    def test_key_of_two_columns(self):
        schema = Schema({"a": ("k", "v", "w")}, keys={"a": (("k", "w"),)})
        self.assertIsNone(first_broken(schema, {"a": ((1, 2, 3), (1, 2, 4), (2, 2, 3))}))
        self.assertEqual(first_broken(schema, {"a": ((1, 2, 3), (1, 4, 3))}), ("key", "a", ("k", "w")))

    def test_reference(self):
        self.assertEqual(first_broken(SHOP, {"ord": ((1, 9, 3),), "item": ((9, 7),)}), ("reference", "oc"))
        self.assertEqual(first_broken(SHOP, {"ord": ((1, 9, 3),), "cus": ((1, 7),)}), ("reference", "oi"))
        self.assertEqual(first_broken(SHOP, {**ROWS, "item": ((9, 7),)}), ("reference", "oi"))

    def test_columns_of_a_reference_go_in_the_order_of_the_key(self):
        schema = Schema({"a": ("p", "q"), "b": ("k", "v")}, keys={"b": (("k", "v"),)},
                        references={"r": ("a", ("q", "p"), "b", ("k", "v"))})
        self.assertIsNone(first_broken(schema, {"a": ((1, 2),), "b": ((2, 1),)}))
        self.assertEqual(first_broken(schema, {"a": ((1, 2),), "b": ((1, 2),)}), ("reference", "r"))
        self.assertEqual(Database(schema, {"a": ((1, 2),), "b": ((2, 1),)}).parent_of("r", (1, 2)), (2, 1))

    def test_the_first_of_several(self):
        broken = {"item": ((1, 1), (1, 2)), "cus": ((1, 1), (1, 2)), "ord": ((3, 3, 3), (4, 3, 3))}
        self.assertEqual(first_broken(SHOP, broken), ("key", "cus", ("code",)))
        del broken["cus"]
        self.assertEqual(first_broken(SHOP, broken), ("key", "item", ("code",)))
        del broken["item"]
        self.assertEqual(first_broken(SHOP, broken), ("key", "ord", ("no",)))
        broken["ord"] = ((3, 3, 3),)
        self.assertEqual(first_broken(SHOP, broken), ("reference", "oc"))

    def test_the_first_of_two_keys(self):
        schema = Schema({"a": ("k", "v")}, keys={"a": (("k",), ("v",))})
        self.assertEqual(first_broken(schema, {"a": ((1, 1), (2, 1), (2, 2))}), ("key", "a", ("k",)))
        self.assertEqual(first_broken(schema, {"a": ((1, 1), (2, 1))}), ("key", "a", ("v",)))

    def test_values_that_are_no_rows(self):
        for value in (*odd_values(), {"cus": ((1, 5), (1, 5))}, None):
            with self.assertRaises(InvalidRow):
                first_broken(SHOP, value)


class MakingTest(unittest.TestCase):
    def test_rows_ascend(self):
        self.assertEqual(list(FULL.rows.items()), [
            ("cus", ((1, 5), (2, 5))), ("item", ((8, 7), (9, 7))), ("ord", ((1, 8, 5), (1, 9, 3), (2, 8, 4)))])
        self.assertEqual(FULL["ord"], ((1, 8, 5), (1, 9, 3), (2, 8, 4)))
        self.assertEqual(FULL.pairs(), (
            ("cus", (1, 5)), ("cus", (2, 5)), ("item", (8, 7)), ("item", (9, 7)),
            ("ord", (1, 8, 5)), ("ord", (1, 9, 3)), ("ord", (2, 8, 4))))
        self.assertEqual((list(FULL), len(FULL)), (list(FULL.pairs()), 7))
        self.assertEqual(FULL.schema, SHOP)

    def test_no_rows(self):
        for database in (Database(SHOP), Database(SHOP, None), Database(SHOP, {}), Database.empty(SHOP)):
            self.assertEqual(database.rows, {"cus": (), "item": (), "ord": ()})
            self.assertEqual((database["cus"], database.pairs(), len(database)), ((), (), 0))
            self.assertEqual(database, Database.empty(shop_again()))

    def test_passed_and_returned_values_are_changed_afterwards(self):
        rows = dict(ROWS)
        database = Database(SHOP, rows)
        rows.clear()
        database.rows.clear()
        database.rows["cus"] = ()
        self.assertEqual(database, FULL)
        self.assertEqual(len(database.rows["cus"]), 2)

    def test_wrong_rows(self):
        for value in (*odd_values(), {"cus": ((1, 5), (1, 5))}, {"x": ()}):
            if value is not None:
                with self.assertRaises(InvalidDatabase):
                    Database(SHOP, value)

    def test_limit_of_rows(self):
        self.assertEqual(len(Database(SHOP, many(100))), 100)
        with self.assertRaises(TooMany) as caught:
            Database(SHOP, many(101))
        self.assertEqual(caught.exception.limit, 100)
        with self.assertRaises(TooMany):
            Database(SHOP, {**many(98), "item": ((1, 1), (2, 1), (3, 1))})

    def test_order_of_errors(self):
        broken = {"cus": many(101)["cus"] + ((0, 1),)}
        with self.assertRaises(TooMany):
            Database(SHOP, broken)
        with self.assertRaises(InvalidDatabase):
            Database(SHOP, {"cus": broken["cus"] + (1,)})

    def test_broken_constraints(self):
        with self.assertRaises(BrokenConstraint) as caught:
            Database(SHOP, {"cus": ((1, 5), (1, 6)), "ord": ((3, 3, 3),)})
        self.assertEqual(caught.exception.constraint, ("key", "cus", ("code",)))
        with self.assertRaises(BrokenConstraint) as caught:
            Database(SHOP, {"ord": ((1, 9, 3),)})
        self.assertEqual(caught.exception.constraint, ("reference", "oc"))


class AskingTest(unittest.TestCase):
    def test_values_that_are_no_tables(self):
        for value in (*odd_values(), "code", "x", 0):
            for call in (lambda x: FULL[x], lambda x: FULL.children_of(x, (1, 5)), lambda x: FULL.with_row(x, (1, 5)),
                         lambda x: FULL.without_row(x, (1, 5)), lambda x: FULL.children_of(x, 1)):
                with self.assertRaises(UnknownName) as caught:
                    call(value)
                self.assertIs(caught.exception.name, value)

    def test_contains(self):
        self.assertIs(("cus", (1, 5)) in DAY, True)
        for value in (("cus", (1, 6)), ("cus", (True, 5)), ("item", (1, 5)), ["cus", (1, 5)], ("cus", [1, 5]), "cus",
                      ("cus",), ("cus", (1, 5), 1), ("x", (1, 5)), (1, 5), ("cus", 1, 5), (["cus"], (1, 5)), DAY):
            self.assertIs(value in DAY, False, value)
        for value in odd_values():
            self.assertIs(value in DAY, False, value)
            self.assertIs(("cus", value) in DAY, False, value)
            self.assertIs((value, (1, 5)) in DAY, False, value)

    def test_equality_and_text(self):
        other = Database(shop_again(), {table: ROWS[table][::-1] for table in ("ord", "item", "cus")})
        self.assertTrue(FULL == other)
        self.assertFalse(FULL != other)
        self.assertEqual((str(FULL), str(DAY), str(Database(SHOP))),
                         ("database of 7 rows", "database of 3 rows", "database of 0 rows"))
        loose = SHOP.without_reference("oc")
        for value in (*odd_values(), Database(SHOP), Database(loose, ROWS), ROWS, FULL.pairs(), 7):
            if not (isinstance(value, Database) and value == DAY):
                self.assertIs(FULL == value, False)
                self.assertIs(FULL != value, True)
        self.assertFalse(FULL == DAY)
        self.assertFalse(Database(SHOP) == Database(loose))

    def test_parent_of(self):
        self.assertEqual([FULL.parent_of("oc", (2, 8, 4)), FULL.parent_of("oi", (2, 8, 4))], [(2, 5), (8, 7)])
        self.assertEqual([LINE.parent_of("ca", (1, 6)), LINE.parent_of("cb", (1, 6))], [(1,), (6, 2)])

    def test_parent_of_errors(self):
        for reference in (*odd_values(), "ord", "x"):
            for row in ((1, 9, 3), None):
                with self.assertRaises(UnknownName) as caught:
                    DAY.parent_of(reference, row)
                self.assertIs(caught.exception.name, reference)
        for row in (*odd_values(), (1, 9, 4), (1, 5), (True, 9, 3), [1, 9, 3]):
            with self.assertRaises(MissingRow) as caught:
                DAY.parent_of("oc", row)
            self.assertIs(caught.exception.row, row)

    def test_children_of(self):
        self.assertEqual(FULL.children_of("item", (8, 7)), (("ord", (1, 8, 5)), ("ord", (2, 8, 4))))
        self.assertEqual(FULL.children_of("ord", (1, 8, 5)), ())
        self.assertEqual(LINE.children_of("a", (1,)), (("b", (5, 1)), ("c", (1, 5)), ("c", (1, 6))))
        self.assertEqual(LINE.children_of("b", (6, 2)), (("c", (1, 6)), ("c", (2, 6))))

    def test_a_child_by_two_references_is_told_once(self):
        schema = Schema({"a": ("k",), "b": ("p", "q")}, keys={"a": (("k",),)}, references={
            "p": ("b", ("p",), "a", ("k",)), "q": ("b", ("q",), "a", ("k",))})
        database = Database(schema, {"a": ((1,), (2,)), "b": ((1, 1), (1, 2))})
        self.assertEqual(database.children_of("a", (1,)), (("b", (1, 1)), ("b", (1, 2))))

    def test_children_of_and_without_row_miss_rows(self):
        for row in (*odd_values(), (1, 6), (9, 7), (True, 5), [1, 5]):
            for call in (DAY.children_of, DAY.without_row):
                with self.assertRaises(MissingRow) as caught:
                    call("cus", row)
                self.assertIs(caught.exception.row, row)


class ClosureTest(unittest.TestCase):
    def test_closures(self):
        self.assertEqual(FULL.closure_of(), Database(SHOP))
        self.assertEqual(FULL.closure_of(("cus", (1, 5))).pairs(), (("cus", (1, 5)),))
        self.assertEqual(FULL.closure_of(("ord", (1, 9, 3))), DAY)
        self.assertEqual(FULL.closure_of(("ord", (1, 9, 3)), ("cus", (1, 5)), ("ord", (1, 9, 3))), DAY)
        self.assertEqual(FULL.closure_of(*FULL.pairs()), FULL)

    def test_parents_of_parents(self):
        self.assertEqual(LINE.closure_of(("c", (1, 6))).pairs(),
                         (("a", (1,)), ("a", (2,)), ("b", (6, 2)), ("c", (1, 6))))
        self.assertEqual(LINE.closure_of(("c", (2, 6))).pairs(), (("a", (2,)), ("b", (6, 2)), ("c", (2, 6))))

    def test_errors_pair_by_pair(self):
        wrong = (*odd_values(), ("x", (1, 5)), ("cus", (1, 5, 2)), ("cus", [1, 5]), ["cus", (1, 5)], "cus", ("cus",))
        for value in wrong:
            with self.assertRaises(InvalidRow):
                FULL.closure_of(value)
            with self.assertRaises(InvalidRow):
                FULL.closure_of(("cus", (1, 5)), value)
            with self.assertRaises(InvalidRow):
                FULL.closure_of(value, ("cus", (1, 6)))
            with self.assertRaises(MissingRow) as caught:
                FULL.closure_of(("cus", (1, 6)), value)
            self.assertEqual(caught.exception.row, (1, 6))


class WithRowTest(unittest.TestCase):
    def test_with_row(self):
        more = DAY.with_row("cus", (0, 3))
        self.assertEqual(more["cus"], ((0, 3), (1, 5)))
        self.assertEqual(len(DAY), 3)
        self.assertEqual(DAY.with_row("cus", (1, 5)), DAY)

    def test_errors(self):
        for row in (*odd_values(), (1,), (1, 2, 3), [1, 5], (True, 5), (1, SIXTY_ONE)):
            with self.assertRaises(InvalidRow):
                DAY.with_row("cus", row)
        for table, row, constraint in (
                ("cus", (1, 6), ("key", "cus", ("code",))), ("ord", (2, 9, 4), ("reference", "oc")),
                ("ord", (1, 8, 4), ("reference", "oi")), ("ord", (7, 9, 3), ("key", "ord", ("no",)))):
            with self.assertRaises(BrokenConstraint) as caught:
                DAY.with_row(table, row)
            self.assertEqual(caught.exception.constraint, constraint)

    def test_limit_comes_before_constraints(self):
        full = Database(SHOP, many(100))
        self.assertEqual(full.with_row("cus", (0, 0)), full)
        for table, row in (("cus", (0, 1)), ("item", (1, 1)), ("ord", (1, 1, 1))):
            with self.assertRaises(TooMany) as caught:
                full.with_row(table, row)
            self.assertEqual(caught.exception.limit, 100)
        with self.assertRaises(InvalidRow):
            full.with_row("cus", (0,))

    def row_for(self, drawn, database):
        """A table and a row of it, whose parents are often there."""
        table = drawn.choice("abbccc")
        row = tuple([drawn.randint(0, 3) for _ in TWO_KEYS.columns_of(table)])
        if table == "c" and database["b"] and drawn.random() < 0.7:
            above = drawn.choice(database["b"])
            row = (above[1], above[0], row[2])
        return table, row

    def look(self, database, rows):
        """The database is the one that is made anew from its rows."""
        made = Database(TWO_KEYS, {table: tuple(rows[table]) for table in rows})
        self.assertEqual([database, database.rows, database.pairs()], [made, made.rows, made.pairs()])
        for table, row in made:
            self.assertEqual(database.children_of(table, row), made.children_of(table, row))
            self.assertEqual(database.closure_of((table, row)), made.closure_of((table, row)))
            for name in TWO_KEYS.references_of(table):
                self.assertEqual(database.parent_of(name, row), made.parent_of(name, row))

    def test_drawn_rows_one_after_another(self):
        drawn = random.Random(5)
        broken = {}
        for _ in range(30):
            rows = {table: [] for table in TWO_KEYS.tables}
            database = Database.empty(TWO_KEYS)
            for _ in range(60):
                table, row = self.row_for(drawn, database)
                if drawn.random() < 0.1 and database.pairs():
                    table, row = drawn.choice(database.pairs())
                    database = database.without_row(table, row)
                    rows = {name: list(database[name]) for name in rows}
                elif row not in rows[table]:
                    more = {**rows, table: [*rows[table], row]}
                    found = first_broken(TWO_KEYS, {name: tuple(more[name]) for name in more})
                    if found is None:
                        before, database, rows = database, database.with_row(table, row), more
                        self.assertEqual(before.with_row(table, row), database)
                    else:
                        self.assertEqual(told_error(database.with_row, table, row), (BrokenConstraint, found))
                        broken[found] = True
                self.look(database, rows)
        # Each key and each reference that can be broken first was broken by some row.
        self.assertEqual(sorted(broken), [
            ("key", "b", ("k",)), ("key", "c", ("p", "r")), ("key", "c", ("q", "r")),
            ("reference", "ba"), ("reference", "ca"), ("reference", "cb")])

    def test_a_single_row_less(self):
        drawn = random.Random(6)
        refused = {}
        for _ in range(30):
            database = Database.empty(TWO_KEYS)
            for _ in range(60):
                table, row = self.row_for(drawn, database)
                if told_error(database.with_row, table, row) is None:
                    database = database.with_row(table, row)
            while database:
                table, row = drawn.choice(database.pairs())
                left = {name: [other for other in database[name] if (name, other) != (table, row)] for name in "abc"}
                found = first_broken(TWO_KEYS, {name: tuple(left[name]) for name in left})
                if found is None:
                    database = database.without_single(table, row)
                    self.look(database, left)
                    self.assertEqual(told_error(database.with_row, table, row), None)
                else:
                    self.assertEqual(told_error(database.without_single, table, row), (BrokenConstraint, found))
                    refused[found] = True
        self.assertEqual(sorted(refused), [("reference", name) for name in ("ba", "ca", "cb")])

    def test_a_key_is_free_again_behind_its_row(self):
        database = Database.empty(SHOP).with_row("cus", (1, 5)).with_row("cus", (2, 5))
        self.assertEqual(told_error(database.with_row, "cus", (1, 6)), (BrokenConstraint, ("key", "cus", ("code",))))
        for left in (database.without_single("cus", (1, 5)), database.without_row("cus", (1, 5))):
            self.assertEqual(left.with_row("cus", (1, 6))["cus"], ((1, 6), (2, 5)))
            self.assertEqual(told_error(left.with_row, "cus", (2, 6)), (BrokenConstraint, ("key", "cus", ("code",))))
        self.assertEqual(database["cus"], ((1, 5), (2, 5)))

    def test_without_row(self):
        self.assertEqual(FULL.without_row("cus", (1, 5)).pairs(),
                         (("cus", (2, 5)), ("item", (8, 7)), ("item", (9, 7)), ("ord", (2, 8, 4))))
        self.assertEqual(LINE.without_row("a", (2,)).pairs(), (("a", (1,)), ("b", (5, 1)), ("c", (1, 5))))
        self.assertEqual(LINE.without_row("c", (1, 6))["c"], ((1, 5), (2, 6)))
        self.assertEqual((len(FULL), len(LINE)), (7, 7))


class OperatorsTest(unittest.TestCase):
    def test_union(self):
        other = Database(shop_again(), {"cus": ((1, 5), (4, 4)), "item": ((2, 2),)})
        self.assertEqual((DAY | other).pairs(), (
            ("cus", (1, 5)), ("cus", (4, 4)), ("item", (2, 2)), ("item", (9, 7)), ("ord", (1, 9, 3))))
        self.assertEqual([DAY | other == other | DAY, DAY | Database(SHOP) == DAY, FULL | DAY == FULL], [True] * 3)

    def test_errors_of_union(self):
        with self.assertRaises(BrokenConstraint) as caught:
            DAY | Database(SHOP, {"cus": ((1, 6),)})
        self.assertEqual(caught.exception.constraint, ("key", "cus", ("code",)))
        shifted = {"cus": tuple([(code, 1) for code in range(60, 120)])}
        with self.assertRaises(TooMany) as caught:
            Database(SHOP, many(61)) | Database(SHOP, shifted)
        self.assertEqual(caught.exception.limit, 100)
        half = Database(SHOP, many(60))
        self.assertEqual(len(half | half), 60)

    def test_intersection_keeps_rows_whose_closures_are_there(self):
        self.assertEqual(FULL & DAY, DAY)
        self.assertEqual(DAY & FULL, DAY)
        moved = Database(SHOP, {"cus": ((1, 6),), "item": ((9, 7),), "ord": ((1, 9, 3),)})
        self.assertEqual((DAY & moved).pairs(), (("item", (9, 7)),))
        self.assertEqual((DAY & Database(SHOP)), Database(SHOP))
        other = Database(CHAIN, {"a": ((1,), (2,)), "b": ((5, 2), (6, 2)), "c": ((1, 5), (1, 6))})
        self.assertEqual((LINE & other).pairs(), (("a", (1,)), ("a", (2,)), ("b", (6, 2)), ("c", (1, 6))))

    def test_parents_of_parents_count_for_the_intersection(self):
        tables = {"a": ("k", "v"), "b": ("k", "up"), "c": ("up",)}
        schema = Schema(tables, keys={"a": (("k",),), "b": (("k",),)}, references={
            "ba": ("b", ("up",), "a", ("k",)), "cb": ("c", ("up",), "b", ("k",))})
        one = Database(schema, {"a": ((1, 1),), "b": ((2, 1),), "c": ((2,),)})
        other = Database(schema, {"a": ((1, 9),), "b": ((2, 1),), "c": ((2,),)})
        self.assertEqual(one & other, Database(schema))
        self.assertEqual(one - other, one)

    def test_difference_has_the_closure(self):
        self.assertEqual(FULL - FULL, Database(SHOP))
        self.assertEqual((FULL - DAY).pairs(), (
            ("cus", (1, 5)), ("cus", (2, 5)), ("item", (8, 7)), ("ord", (1, 8, 5)), ("ord", (2, 8, 4))))
        self.assertEqual(DAY - FULL, Database(SHOP))
        self.assertEqual((DAY - Database(SHOP, {"cus": ((1, 5),)})), DAY)
        self.assertEqual((DAY - DAY.without_row("ord", (1, 9, 3))), DAY)
        self.assertEqual(DAY.without_row("ord", (1, 9, 3)) - Database(SHOP, {"cus": ((1, 5),)}),
                         Database(SHOP, {"item": ((9, 7),)}))

    def test_is_within(self):
        self.assertEqual([DAY.is_within(FULL), FULL.is_within(DAY), DAY.is_within(DAY)], [True, False, True])
        self.assertIs(Database(shop_again()).is_within(DAY), True)
        self.assertIs(Database(SHOP, {"cus": ((1, 6),)}).is_within(DAY), False)

    def test_values_that_are_no_database_of_an_equal_schema(self):
        loose = Database(SHOP.without_reference("oc"))
        for value in (*odd_values(), loose, ROWS, DAY.pairs(), None, 1):
            if not (isinstance(value, Database) and value.schema == SHOP):
                for call in (lambda x: DAY | x, lambda x: DAY & x, lambda x: DAY - x, DAY.is_within):
                    with self.assertRaises(InvalidOperation):
                        call(value)

    def test_nothing_is_changed(self):
        one = kept = DAY
        one |= FULL
        one &= FULL
        one -= Database(SHOP)
        self.assertEqual((one, kept, len(DAY), len(FULL)), (FULL, DAY, 3, 7))


class ExampleTest(unittest.TestCase):
    def test_example(self):
        self.assertEqual(
            [DAY.parent_of("oi", (1, 9, 3)), DAY.children_of("cus", (1, 5)), DAY.closure_of(("item", (9, 7))).pairs()],
            [(9, 7), (("ord", (1, 9, 3)),), (("item", (9, 7)),)])
        self.assertEqual([IDLE == IDLE, TOWNS == TOWNS], [True, True])


if __name__ == "__main__":
    unittest.main()
