"""[0.7], [0.8], [0.9] and Schema of stage 2."""

import unittest

from dealtrows.base import schemas
from dealtrows.base.schemas import Schema
from dealtrows.errors import InvalidOperation, InvalidSchema, UnknownName
from samples import DAY, SHOP, SIXTY, SIXTY_ONE, odd_values, shop_again

TWO = {"a": ("k", "v"), "b": ("x", "y")}
KEYS = {"b": (("x",),)}


class LimitsTest(unittest.TestCase):
    def test_constants(self):
        limits = (schemas.MAX_TABLES, schemas.MAX_COLUMNS, schemas.MAX_KEYS, schemas.MAX_REFERENCES)
        self.assertEqual(limits, (5, 4, 2, 4))

    def test_tables(self):
        self.assertEqual(len(Schema({"a": ("k",)})), 1)
        self.assertEqual(len(Schema({name: ("k",) for name in "abcde"})), 5)
        for tables in ({}, {name: ("k",) for name in "abcdef"}):
            with self.assertRaises(InvalidSchema):
                Schema(tables)

    def test_columns(self):
        for columns in (("a",), ("a", "b"), ("a", "b", "c", "d")):
            self.assertEqual(Schema({"a": columns}).columns_of("a"), columns)
        for columns in ((), ("a", "b", "c", "d", "e")):
            with self.assertRaises(InvalidSchema):
                Schema({"b": ("k",), "a": columns})

    def test_letters_of_names(self):
        eight, nine = "abcdefgh", "abcdefghi"
        schema = Schema({eight: (eight,), "a": ("k",)}, keys={eight: ((eight,),)},
                        references={eight: ("a", ("k",), eight, (eight,))})
        self.assertEqual(schema.references_of("a"), (eight,))
        for wrong in (nine, "", "A", "a1", "a b", 1, None, True, ("a",)):
            with self.assertRaises(InvalidSchema):
                Schema({wrong: ("k",)})
            with self.assertRaises(InvalidSchema):
                Schema({"a": (wrong,)})
            with self.assertRaises(InvalidSchema):
                Schema(TWO, keys=KEYS, references={wrong: ("a", ("k",), "b", ("x",))})

    def test_keys(self):
        for keys in ((("k",),), (("k",), ("v",)), (("k",), ("k", "v")), (("k", "v"), ("v",))):
            self.assertEqual(Schema(TWO, keys={"a": keys}).keys_of("a"), keys)
        three = {"a": ("a", "b", "c")}
        for keys in ((), (("a",), ("b",), ("c",)), (("a", "b"), ("a", "c"), ("b", "c"))):
            with self.assertRaises(InvalidSchema):
                Schema(three, keys={"a": keys})

    def test_references(self):
        tables, keys = {"a": ("p", "q", "r", "s"), "b": ("k",)}, {"b": (("k",),)}
        many = {name: ("a", (name,), "b", ("k",)) for name in "pqrs"}
        self.assertEqual(len(Schema(tables, keys=keys, references=many).references), 4)
        many["t"] = ("a", ("p",), "b", ("k",))
        with self.assertRaises(InvalidSchema):
            Schema(tables, keys=keys, references=many)


class TablesTest(unittest.TestCase):
    def test_columns_that_do_not_ascend(self):
        for columns in (("b", "a"), ("a", "a"), ("a", "c", "b"), ["a", "b"], "ab", "a", {"a": 1}, None, 1, (1,), ()):
            with self.assertRaises(InvalidSchema):
                Schema({"a": columns})

    def test_values_that_are_no_tables(self):
        for tables in (*odd_values(), (("a", ("k",)),), [("a", ("k",))], "a", ("a",), ["a"], 1):
            with self.assertRaises(InvalidSchema):
                Schema(tables)
            if tables != ("a",):
                with self.assertRaises(InvalidSchema):
                    Schema({"a": tables})

    def test_equal_names_of_different_things(self):
        schema = Schema({"a": ("a",), "b": ("a", "b")}, keys={"a": (("a",),)}, references={
            "a": ("b", ("a",), "a", ("a",)), "b": ("b", ("b",), "a", ("a",))})
        self.assertEqual(schema.references_of("b"), ("a", "b"))


class KeysTest(unittest.TestCase):
    def test_keys_that_do_not_ascend(self):
        wrong = ((("v", "k"),), (("k",), ("v", "k")), (("v",), ("k",)), (("k",), ("k",)), (("k", "k"),), (("k", "v"), ("k",)), ((),))
        for keys in wrong:
            with self.assertRaises(InvalidSchema):
                Schema(TWO, keys={"a": keys})

    def test_keys_of_other_columns_and_tables(self):
        for keys in ({"a": (("x",),)}, {"a": (("k", "x"),)}, {"c": (("k",),)}, {"a": ("k",)}, {"a": [("k",)]},
                     {"a": (["k"],)}, {"a": None}, {"a": "k"}, {1: (("k",),)}, {("a",): (("k",),)}, {None: ()}):
            with self.assertRaises(InvalidSchema):
                Schema(TWO, keys=keys)

    def test_a_key_within_another_one(self):
        schema = Schema(TWO, keys={"a": (("k",), ("k", "v"))})
        self.assertEqual(schema.keys_of("a"), (("k",), ("k", "v")))

    def test_values_that_are_no_keys(self):
        for keys in (*odd_values(), ("a",), ["a"], "a", ("a", "b"), (("a", (("k",),)),), 0):
            if keys is not None:
                with self.assertRaises(InvalidSchema):
                    Schema(TWO, keys=keys)
            with self.assertRaises(InvalidSchema):
                Schema(TWO, keys={"a": keys})


class ReferencesTest(unittest.TestCase):
    def refuse(self, reference, **more):
        with self.assertRaises(InvalidSchema, msg=reference):
            Schema(TWO, keys=KEYS, references={"r": reference, **more})

    def test_wrong_references(self):
        for reference in (
                ("a", ("k",), "b"), ("a", ("k",), "b", ("x",), 1), ["a", ("k",), "b", ("x",)],
                ("c", ("k",), "b", ("x",)), ("a", ("k",), "c", ("x",)), ("a", ("x",), "b", ("x",)),
                ("a", (), "b", ("x",)), ("a", ("k", "v"), "b", ("x",)), ("a", "k", "b", ("x",)),
                ("a", ("k",), "b", "x"), ("a", ["k"], "b", ("x",)), ("a", ("k",), "b", ["x"]),
                ("a", (1,), "b", ("x",)), (1, ("k",), "b", ("x",)), (["a"], ("k",), "b", ("x",)),
                ("a", ("k",), {"b": 1}, ("x",)), (None, None, None, None)):
            self.refuse(reference)

    def test_no_key(self):
        for key in (("y",), ("x", "y"), (), ("k",)):
            self.refuse(("a", ("k",), "b", key))
        self.refuse(("b", ("x",), "a", ("k",)))

    def test_own_table(self):
        self.refuse(("b", ("y",), "b", ("x",)))

    def test_columns_twice(self):
        tables, keys = {"a": ("k", "v"), "b": ("x", "y")}, {"b": (("x", "y"),)}
        for columns in (("k", "v"), ("v", "k")):
            schema = Schema(tables, keys=keys, references={"r": ("a", columns, "b", ("x", "y"))})
            self.assertEqual(schema.references["r"][1], columns)
        for columns in (("k", "k"), ("k",), ("k", "v", "k"), ("k", "x"), ("x", "k")):
            with self.assertRaises(InvalidSchema):
                Schema(tables, keys=keys, references={"r": ("a", columns, "b", ("x", "y"))})

    def test_references_that_lead_round(self):
        tables = {name: ("k", "v") for name in "abc"}
        keys = {name: (("k",),) for name in "abc"}
        steps = {"p": ("a", ("v",), "b", ("k",)), "q": ("b", ("v",), "c", ("k",))}
        self.assertEqual(len(Schema(tables, keys=keys, references=steps).references), 2)
        for last in (("c", ("v",), "a", ("k",)), ("b", ("v",), "a", ("k",)), ("c", ("v",), "b", ("k",))):
            with self.assertRaises(InvalidSchema):
                Schema(tables, keys=keys, references={**steps, "r": last})
        beside = Schema(tables, keys=keys, references={**steps, "r": ("a", ("k",), "c", ("k",))})
        self.assertEqual(beside.references_of("a"), ("p", "r"))

    def test_values_that_are_no_references(self):
        for value in (*odd_values(), ("r",), ["r"], "r", (("r", ("a", ("k",), "b", ("x",))),), 0):
            if value not in (None, {}):
                with self.assertRaises(InvalidSchema):
                    Schema(TWO, keys=KEYS, references=value)
            self.refuse(value)


class ToldTest(unittest.TestCase):
    def test_properties(self):
        self.assertEqual(list(SHOP.tables.items()), [
            ("cus", ("code", "town")), ("item", ("code", "price")), ("ord", ("code", "item", "no"))])
        self.assertEqual(list(SHOP.references.items()), [
            ("oc", ("ord", ("code",), "cus", ("code",))), ("oi", ("ord", ("item",), "item", ("code",)))])

    def test_dicts_ascend(self):
        schema = Schema({"b": ("k",), "a": ("k",), "c": ("k",)}, keys={"b": (("k",),), "a": (("k",),)}, references={
            "z": ("c", ("k",), "b", ("k",)), "y": ("c", ("k",), "a", ("k",))})
        self.assertEqual((list(schema.tables), list(schema.references)), (["a", "b", "c"], ["y", "z"]))
        self.assertEqual(schema.references_of("c"), ("y", "z"))
        for left in (schema.without_reference("y"), schema.without_reference("y").without_key("a", ("k",))):
            self.assertEqual((list(left.tables), list(left.references)), (["a", "b", "c"], ["z"]))

    def test_passed_values_are_changed_afterwards(self):
        tables, keys = dict(TWO), dict(KEYS)
        references = {"r": ("a", ("k",), "b", ("x",))}
        schema = Schema(tables, keys=keys, references=references)
        same = Schema(dict(TWO), keys=dict(KEYS), references=dict(references))
        for passed in (tables, keys, references):
            passed.clear()
            passed["z"] = 1
        self.assertEqual(schema, same)
        self.assertEqual((schema.tables, schema.keys_of("b")), (TWO, (("x",),)))
        self.assertEqual(schema.references, {"r": ("a", ("k",), "b", ("x",))})

    def test_returned_values_are_changed_afterwards(self):
        schema = shop_again()
        schema.tables.clear()
        schema.references["oc"] = None
        self.assertEqual(schema, SHOP)
        self.assertEqual((len(schema.tables), schema.references["oc"]), (3, ("ord", ("code",), "cus", ("code",))))

    def test_none_stands_for_an_empty_dict(self):
        self.assertEqual(Schema(TWO, keys=None, references=None), Schema(TWO, keys={}, references={}))
        self.assertEqual(Schema(TWO).keys_of("a"), ())
        self.assertEqual((Schema(TWO).references, Schema(TWO).references_of("a")), ({}, ()))

    def test_names_that_are_no_tables(self):
        for value in (*odd_values(), "c", "code", "oc"):
            for call in (SHOP.columns_of, SHOP.keys_of, SHOP.references_of, lambda x: SHOP.is_row_of(x, (1, 2)),
                         lambda x: SHOP.without_key(x, ("code",)), lambda x: SHOP.leads_to(x, "cus"),
                         lambda x: SHOP.leads_to("cus", x)):
                with self.assertRaises(UnknownName) as caught:
                    call(value)
                self.assertIs(caught.exception.name, value)

    def test_is_row_of(self):
        for row in ((1, 2), (0, -1), (SIXTY, -SIXTY), (1, 1)):
            self.assertIs(SHOP.is_row_of("cus", row), True)
        refused = ((1,), (1, 2, 3), (), [1, 2], (True, 1), (1, False), (SIXTY_ONE, 1), ("a", 1), ((1, 2),), "ab")
        for value in (*refused, *odd_values(), {1: 1, 2: 2}):
            self.assertIs(SHOP.is_row_of("cus", value), False, value)

    def test_leads_to(self):
        tables = {name: ("k",) for name in "abcd"}
        keys = {name: (("k",),) for name in "abcd"}
        schema = Schema(tables, keys=keys, references={
            "p": ("a", ("k",), "b", ("k",)), "q": ("b", ("k",), "c", ("k",))})
        ways = [(one, other) for one in "abcd" for other in "abcd" if schema.leads_to(one, other)]
        self.assertEqual(ways, [("a", "b"), ("a", "c"), ("b", "c")])
        self.assertIs(schema.leads_to("a", "c"), True)
        self.assertIs(schema.leads_to("a", "a"), False)

    def test_leads_to_tells_the_first_value_that_is_no_table(self):
        for one, other, told in (("x", "y", "x"), ("cus", "y", "y"), (1, [], 1)):
            with self.assertRaises(UnknownName) as caught:
                SHOP.leads_to(one, other)
            self.assertEqual(caught.exception.name, told)

    def test_contains_and_length(self):
        self.assertEqual([value in SHOP for value in ("cus", "item", "ord", "code", "oc")], [True, True, True, False, False])
        for value in odd_values():
            self.assertIs(value in SHOP, False)
        self.assertEqual((len(SHOP), len(Schema(TWO))), (3, 2))

    def test_no_iteration(self):
        with self.assertRaises(TypeError):
            iter(SHOP)
        with self.assertRaises(TypeError):
            SHOP["cus"]

    def test_text(self):
        self.assertEqual(str(SHOP), "schema of 3 tables, 3 keys, 2 references")
        self.assertEqual(str(Schema(TWO, keys={"a": (("k",), ("v",))})), "schema of 2 tables, 2 keys, 0 references")

    def test_equality(self):
        self.assertTrue(SHOP == shop_again())
        self.assertFalse(SHOP != shop_again())
        more = Schema({**SHOP.tables, "x": ("k",)}, keys={table: SHOP.keys_of(table) for table in SHOP.tables},
                      references=SHOP.references)
        for other in (more, SHOP.without_reference("oc"), SHOP.without_key("ord", ("no",)), Schema(SHOP.tables)):
            self.assertTrue(SHOP != other)
            self.assertFalse(SHOP == other)
        for value in (*odd_values(), SHOP.tables, str(SHOP)):
            if value is not SHOP:
                self.assertIs(SHOP == value, False)
                self.assertIs(SHOP != value, True)


class WithoutTest(unittest.TestCase):
    def test_without_key(self):
        schema = Schema(TWO, keys={"a": (("k",), ("v",)), "b": (("x",),)})
        self.assertEqual(schema.without_key("a", ("k",)), Schema(TWO, keys={"a": (("v",),), "b": (("x",),)}))
        self.assertEqual(schema.without_key("a", ("v",)).keys_of("a"), (("k",),))
        self.assertEqual(schema.without_key("b", ("x",)), Schema(TWO, keys={"a": (("k",), ("v",))}))
        self.assertEqual(len(schema.keys_of("a")), 2)

    def test_without_a_key_that_is_none(self):
        for columns in (("town",), ("code", "town"), (), ["code"], "code", None, 1, True, SHOP, {"code": 1}):
            with self.assertRaises(InvalidOperation):
                SHOP.without_key("cus", columns)

    def test_without_a_key_to_which_a_reference_leads(self):
        for table in ("cus", "item"):
            with self.assertRaises(InvalidOperation):
                SHOP.without_key(table, ("code",))
        self.assertEqual(SHOP.without_reference("oc").without_key("cus", ("code",)).keys_of("cus"), ())
        two = Schema(TWO, keys={"b": (("x",), ("y",))}, references={"r": ("a", ("k",), "b", ("x",))})
        self.assertEqual(two.without_key("b", ("y",)).keys_of("b"), (("x",),))
        with self.assertRaises(InvalidOperation):
            two.without_key("b", ("x",))

    def test_a_key_of_the_same_columns_of_another_table(self):
        schema = Schema({"a": ("k",), "b": ("k",), "c": ("k",)}, keys={"a": (("k",),), "b": (("k",),)},
                        references={"r": ("c", ("k",), "a", ("k",))})
        self.assertEqual(schema.without_key("b", ("k",)).keys_of("b"), ())

    def test_without_key_checks_the_table_first(self):
        with self.assertRaises(UnknownName):
            SHOP.without_key("x", "no key")

    def test_without_reference(self):
        left = SHOP.without_reference("oc")
        self.assertEqual(left.references, {"oi": ("ord", ("item",), "item", ("code",))})
        self.assertEqual((left.tables, left.keys_of("cus")), (SHOP.tables, (("code",),)))
        self.assertEqual(len(SHOP.references), 2)
        for name in (*odd_values(), "cus", "code", "op"):
            with self.assertRaises(UnknownName) as caught:
                SHOP.without_reference(name)
            self.assertIs(caught.exception.name, name)


class ExampleTest(unittest.TestCase):
    def test_example(self):
        self.assertEqual(
            [SHOP.columns_of("ord"), SHOP.keys_of("ord"), SHOP.references_of("ord"), SHOP.leads_to("ord", "item"),
             SHOP.leads_to("item", "ord")],
            [("code", "item", "no"), (("no",),), ("oc", "oi"), True, False])
        self.assertEqual(DAY.schema, SHOP)


if __name__ == "__main__":
    unittest.main()
