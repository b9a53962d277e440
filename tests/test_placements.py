"""[0.16] to [0.18] and class Placement."""

import unittest

from dealtrows.base.databases import Database
from dealtrows.base.schemas import Schema
from dealtrows.deal import placements
from dealtrows.deal.placements import Placement
from dealtrows.errors import InvalidDatabase, InvalidOperation, InvalidPlacement, InvalidRule, InvalidSchema
from dealtrows.errors import MissingRow, UnknownName
from samples import DAY, FAR, NEAR, SHOP, SIXTY_ONE, odd_but, odd_values, shop_again, told_error

ALL, FIRST, ANY = ("all",), ("first",), ("any",)
# A chain of references, two of which lead from c to b.
CHAIN = Schema(
    {"a": ("k", "x"), "b": ("k", "p"), "c": ("k", "p", "q")},
    keys={"a": (("k",),), "b": (("k",),)},
    references={"ba": ("b", ("p",), "a", ("k",)), "cb": ("c", ("p",), "b", ("k",)), "cc": ("c", ("q",), "b", ("k",))})
ROWS = {"a": ((1, 5), (2, 6)), "b": ((3, 1), (4, 2)), "c": ((7, 3, 4), (8, 3, 3))}


def chain(a=(ALL,), b=(ALL,), c=(ALL,)):
    return Placement(CHAIN, a=a, b=b, c=c)


class RulesTest(unittest.TestCase):
    def test_constant(self):
        self.assertEqual(placements.MAX_RULES, 2)

    def test_rules(self):
        for rule in (ALL, FIRST, ANY, ("by", "s", ("code",)), ("by", "z", ("no", "code")), ("by", "abcdefgh", ("item",)),
                     ("by", "z", ("no", "item", "code")), ("with", "oc"), ("with", "oi")):
            self.assertIs(Placement.is_rule(SHOP, "ord", rule), True, rule)
            self.assertEqual(NEAR.with_rules("ord", rule)["ord"], (rule,))

    def test_values_that_are_no_rules(self):
        wrong = ("all", ("ALL",), ("all", "all"), ["all"], (), ("none",), ("by",), ("by", "s"), ("with",), ("with", "oc", "oi"),
                 ("by", "S", ("code",)), ("by", "", ("code",)), ("by", "ninechars", ("code",)), ("by", 1, ("code",)),
                 ("by", "s", ()), ("by", "s", "code"), ("by", "s", ["code"]), ("by", "s", ("code", "code")),
                 ("by", "s", ("town",)), ("by", "s", ("code", "price")), ("by", "s", ("code",), ()), ("by", "s", (1,)),
                 ("by", "s", (("code",),)), ("with", "co"), ("with", 1), ("with", ("oc",)), ("first", 0), (True,),
                 ("any", "ord"), ("BY", "s", ("code",)), (("all",),), (ALL, FIRST), *odd_values())
        for value in wrong:
            self.assertIs(Placement.is_rule(SHOP, "ord", value), False, value)
            with self.assertRaises(InvalidRule):
                NEAR.with_rules("ord", value)
            with self.assertRaises(InvalidRule):
                Placement.of(SHOP, {**NEAR.rules, "ord": (value,)})

    def test_a_reference_leads_from_its_own_table_only(self):
        self.assertEqual([Placement.is_rule(SHOP, table, ("with", "oc")) for table in ("cus", "item", "ord")],
                         [False, False, True])
        self.assertIs(Placement.is_rule(SHOP, "cus", ("by", "s", ("item",))), False)

    def test_errors_of_is_rule(self):
        self.assertEqual(told_error(Placement.is_rule, None, "x", 1), (InvalidSchema,))
        for table in ("items", "", None, [], 1, ("ord",)):
            self.assertEqual(told_error(Placement.is_rule, SHOP, table, 1), (UnknownName, table))


class PlacementTest(unittest.TestCase):
    def test_properties(self):
        self.assertEqual(FAR.schema, SHOP)
        told = {"cus": (("by", "s", ("code",)),), "item": (("by", "t", ("code",)),), "ord": (("with", "oc"),)}
        self.assertEqual(FAR.rules, told)
        self.assertEqual(list(Placement(SHOP, ord=(ALL,), item=(ALL,), cus=(ALL,)).rules), ["cus", "item", "ord"])
        placement = NEAR.with_rules("ord", ("by", "a", ("no", "code")), ("by", "z", ("no",)))
        self.assertEqual(placement.spreads, {"a": 2, "s": 1, "z": 1})
        self.assertEqual(list(placement.spreads), ["a", "s", "z"])
        self.assertEqual(Placement(SHOP, ord=(ANY,), item=(ALL,), cus=(FIRST,)).spreads, {})

    def test_of(self):
        self.assertEqual(Placement.of(SHOP, {"ord": (("with", "oc"),), "cus": (("by", "s", ("code",)),), "item": (ALL,)}), NEAR)
        self.assertEqual(list(Placement.of(SHOP, dict(reversed(NEAR.rules.items()))).rules), ["cus", "item", "ord"])

    def test_tables_called_schema_and_self(self):
        schema = Schema({"schema": ("a",), "self": ("a",), "cls": ("a",), "rules": ("a",)})
        told = {"cls": (ALL,), "rules": (("by", "s", ("a",)),), "schema": (FIRST,), "self": (ANY,)}
        placement = Placement.of(schema, told)
        self.assertEqual([placement.rules, placement.schema, placement.spreads], [told, schema, {"s": 1}])
        self.assertEqual(placement.with_rules("self", ALL)["self"], (ALL,))
        database = Database(schema, {"self": ((4,),)})
        self.assertEqual(placement.places_of(database, "self", (4,)), (("any", "self", (4,)),))
        only = Schema({"rules": ("a",), "cls": ("a",)})
        self.assertEqual(Placement(only, rules=(ALL,), cls=(ALL,)), Placement.of(only, {"rules": (ALL,), "cls": (ALL,)}))

    def test_two_rules(self):
        for rules in ((ANY, FIRST), (("by", "s", ("code",)), ("with", "oc")), (("with", "oc"), ("with", "oi")),
                      (("by", "s", ("code",)), ("by", "s", ("item",))), (("by", "s", ("code", "no")), ("by", "t", ("no",)))):
            self.assertEqual(Placement(SHOP, cus=(ALL,), item=(ALL,), ord=rules)["ord"], rules)

    def test_rules_that_are_refused(self):
        wrong = (None, (), "all", ALL, [ALL], (FIRST, ANY), (ANY, ANY), (ALL, FIRST), (ALL, ANY), (ALL, ALL),
                 (ANY, FIRST, ("with", "oc")), (("with", "oi"), ("with", "oc")), (("by", "t", ("no",)), ("by", "s", ("no",))),
                 (ANY, None), (ANY, "x"), (ALL, ("with", "oc")), (("by", "s", ("code",)), ALL), *odd_values())
        for rules in wrong:
            with self.assertRaises(InvalidRule):
                Placement(SHOP, cus=(ALL,), item=(ALL,), ord=rules)
            with self.assertRaises(InvalidRule):
                Placement.of(SHOP, {"cus": (ALL,), "item": (ALL,), "ord": rules})

    def test_tables(self):
        for rules in ({}, {"cus": (ALL,), "item": (ALL,)}, {**NEAR.rules, "more": (ALL,)},
                      {"cus": (ALL,), "item": (ALL,), "ords": (ALL,)}, {"cus": (ALL,), "item": 5}):
            self.assertEqual(told_error(Placement.of, SHOP, rules)[0], InvalidPlacement)
            with self.assertRaises(InvalidPlacement):
                Placement(SHOP, **rules)
        for rules in (*odd_values(), tuple(NEAR.rules.items()), list(NEAR.rules), {1: (ALL,), "item": (ALL,), "ord": (ALL,)},
                      {("cus",): (ALL,), "item": (ALL,), "ord": (ALL,)}):
            with self.assertRaises(InvalidPlacement):
                Placement.of(SHOP, rules)

    def test_arities(self):
        for rules in ({"cus": (("by", "s", ("code",)),), "item": (("by", "s", ("code", "price")),), "ord": (ALL,)},
                      {"cus": (ALL,), "item": (ALL,), "ord": (("by", "s", ("code",)), ("by", "s", ("code", "no")))}):
            with self.assertRaises(InvalidPlacement):
                Placement.of(SHOP, rules)
            with self.assertRaises(InvalidPlacement):
                Placement(SHOP, **rules)
        self.assertEqual(told_error(NEAR.with_rules, "item", ("by", "s", ("code", "price")))[0], InvalidPlacement)
        same = NEAR.with_rules("item", ("by", "s", ("price",)))
        self.assertEqual(same.spreads, {"s": 1})
        self.assertEqual(NEAR.with_rules("cus", ("by", "s", ("code", "town"))).spreads, {"s": 2})

    def test_order_of_errors(self):
        self.assertEqual(told_error(Placement.of, None, None)[0], InvalidSchema)
        self.assertEqual(told_error(Placement, None, a=1)[0], InvalidSchema)
        self.assertEqual(told_error(Placement.of, SHOP, {"cus": 1, "item": 2})[0], InvalidPlacement)
        uneven = {"cus": (("by", "s", ("code",)),), "item": (("by", "s", ("code", "price")),)}
        self.assertEqual(told_error(Placement.of, SHOP, {**uneven, "ord": ()})[0], InvalidRule)
        self.assertEqual(told_error(Placement.of, SHOP, {**uneven, "ord": (ALL,)})[0], InvalidPlacement)
        for value in (None, DAY, SHOP.tables, NEAR):
            self.assertEqual(told_error(Placement.of, value, NEAR.rules)[0], InvalidSchema)

    def test_index_length_and_text(self):
        self.assertEqual([NEAR["cus"], NEAR["item"], len(NEAR)], [(("by", "s", ("code",)),), (ALL,), 3])
        for table in ("x", None, 0, [], ("cus",), "Cus"):
            self.assertEqual(told_error(NEAR.__getitem__, table), (UnknownName, table))
        two = NEAR.with_rules("ord", ("with", "oi"), ("with", "oc"))
        self.assertEqual([len(two), str(two), str(FAR)],
                         [4, "placement of 3 tables, 1 spreads", "placement of 3 tables, 2 spreads"])

    def test_is_not_iterated_over(self):
        for call in (iter, list, lambda placement: [rule for rule in placement], lambda placement: "cus" in placement):
            with self.assertRaises(TypeError):
                call(NEAR)

    def test_equality(self):
        self.assertEqual(NEAR, Placement(shop_again(), **NEAR.rules))
        self.assertNotEqual(NEAR, FAR)
        self.assertIs(NEAR != FAR, True)
        self.assertNotEqual(NEAR, Placement(SHOP.without_key("ord", ("no",)), **NEAR.rules))
        for value in (*odd_but(Placement), NEAR.rules, str(NEAR)):
            self.assertIs(NEAR == value, False)

    def test_with_rules(self):
        one, other = ("with", "oi"), ("by", "z", ("no",))
        for rules in ((one, other), (other, one)):
            placement = NEAR.with_rules("ord", *rules)
            self.assertEqual(placement["ord"], (other, one))
            self.assertEqual([placement["cus"], placement["item"]], [NEAR["cus"], NEAR["item"]])
        self.assertEqual(NEAR["ord"], (("with", "oc"),))
        for rules in ((), (ANY, ANY), (ALL, ANY), (ANY, FIRST, one), (None,), (ANY, None), ((ANY, FIRST),)):
            with self.assertRaises(InvalidRule):
                NEAR.with_rules("ord", *rules)
        for table in ("x", None, [], 1):
            self.assertEqual(told_error(NEAR.with_rules, table, None), (UnknownName, table))
        self.assertEqual(told_error(NEAR.with_rules, "item", ("by", "s", ("code", "price")), 5)[0], InvalidRule)

    def test_is_within(self):
        two = NEAR.with_rules("ord", ("with", "oc"), ANY)
        self.assertEqual([NEAR.is_within(NEAR), NEAR.is_within(two), two.is_within(NEAR), NEAR.is_within(FAR)],
                         [True, True, False, False])
        swapped = Placement(CHAIN, a=(ANY,), b=(ALL,), c=(ALL,)), Placement(CHAIN, a=(ALL,), b=(ANY,), c=(ALL,))
        self.assertIs(swapped[0].is_within(swapped[1]), False)
        for value in (*odd_but(Placement), chain()):
            with self.assertRaises(InvalidOperation):
                NEAR.is_within(value)

    def test_nothing_is_shared(self):
        rules = dict(NEAR.rules)
        placement = Placement.of(SHOP, rules)
        rules["cus"] = (ALL,)
        placement.rules["cus"] = (ALL,)
        placement.rules.clear()
        placement.spreads.clear()
        self.assertEqual([placement, placement.rules, placement.spreads], [NEAR, NEAR.rules, {"s": 1}])


class PlacesTest(unittest.TestCase):
    def setUp(self):
        self.database = Database(CHAIN, ROWS)

    def places(self, placement, table="c", row=(7, 3, 4)):
        return placement.places_of(self.database, table, row)

    def test_each_rule(self):
        self.assertEqual(self.places(chain()), (ALL,))
        self.assertEqual(self.places(chain(c=(FIRST,))), (FIRST,))
        self.assertEqual(self.places(chain(c=(ANY,))), (("any", "c", (7, 3, 4)),))
        self.assertEqual(self.places(chain(c=(("by", "s", ("k",)),))), (("by", "s", (7,)),))
        self.assertEqual(self.places(chain(c=(("by", "s", ("q", "k")),))), (("by", "s", (4, 7)),))
        self.assertEqual(self.places(chain(c=(("with", "cb"),))), (ALL,))

    def test_references(self):
        placement = chain(a=(("by", "s", ("x",)),), b=(("with", "ba"),), c=(("with", "cb"),))
        self.assertEqual(self.places(placement), (("by", "s", (5,)),))
        self.assertEqual(self.places(placement, "b", (4, 2)), (("by", "s", (6,)),))
        both = placement.with_rules("c", ("with", "cb"), ("with", "cc"))
        self.assertEqual(self.places(both), (("by", "s", (5,)), ("by", "s", (6,))))
        self.assertEqual(self.places(both, "c", (8, 3, 3)), (("by", "s", (5,)),))
        lone = both.with_rules("a", ANY)
        self.assertEqual(self.places(lone), (("any", "a", (1, 5)), ("any", "a", (2, 6))))

    def test_two_rules(self):
        placement = chain(b=(ANY, FIRST), c=(("by", "s", ("k",)), ("with", "cb")))
        self.assertEqual(self.places(placement), (("any", "b", (3, 1)), ("by", "s", (7,)), FIRST))
        wide = chain(c=(ANY, ("with", "cb")))
        self.assertEqual(self.places(wide), (ALL, ("any", "c", (7, 3, 4))))

    def test_places_in(self):
        placement = chain(a=(FIRST,), b=(("by", "s", ("p",)),), c=(("by", "s", ("p",)), ("with", "cc")))
        self.assertEqual(placement.places_in(self.database),
                         (("by", "s", (1,)), ("by", "s", (2,)), ("by", "s", (3,)), FIRST))
        self.assertEqual(chain().places_in(self.database), (ALL,))
        self.assertEqual(chain().places_in(Database(CHAIN)), ())

    def test_errors(self):
        for value in (*odd_values(), ROWS):
            self.assertEqual(told_error(chain().places_of, value, "x", 1)[0], InvalidDatabase)
            self.assertEqual(told_error(chain().places_in, value)[0], InvalidDatabase)
        for table in ("x", None, []):
            self.assertEqual(told_error(chain().places_of, self.database, table, 1), (UnknownName, table))
        for row in ((9, 9), (1, 6), (1,), 1, None, [1, 5], (True, 5), (1, SIXTY_ONE), (7, 3, 4)):
            self.assertEqual(told_error(chain().places_of, self.database, "a", row), (MissingRow, row))

    def test_an_equal_schema_is_enough(self):
        again = Database(shop_again(), DAY.rows)
        self.assertEqual(FAR.places_of(again, "item", (9, 7)), (("by", "t", (9,)),))


class CommonPlacesTest(unittest.TestCase):
    def setUp(self):
        self.database = Database(CHAIN, ROWS)

    def test_common_places(self):
        placement = chain(a=(("by", "s", ("x",)),), b=(("with", "ba"),), c=(("with", "cb"), ("with", "cc")))
        b, c = ("b", (3, 1)), ("c", (7, 3, 4))
        self.assertEqual(placement.common_places(self.database, c), (("by", "s", (5,)), ("by", "s", (6,))))
        self.assertEqual(placement.common_places(self.database, c, b), (("by", "s", (5,)),))
        self.assertEqual(placement.common_places(self.database, b, c, b, b), (("by", "s", (5,)),))
        self.assertEqual(placement.common_places(self.database, b, c, ("b", (4, 2))), ())

    def test_rows_that_lie_everywhere(self):
        placement = chain(b=(FIRST,), c=(ANY, ("with", "cb")))
        self.assertEqual(placement.common_places(self.database, ("a", (1, 5)), ("b", (3, 1))), (FIRST,))
        self.assertEqual(placement.common_places(self.database, ("a", (1, 5))), (ALL,))
        self.assertEqual(placement.common_places(self.database), (ALL,))
        self.assertEqual(chain().common_places(self.database, ("a", (1, 5)), ("c", (7, 3, 4))), (ALL,))
        # A row with the place ("all",) beside another one has every place, too.
        wide = chain(b=(FIRST,), c=(ANY, ("with", "cc"))).with_rules("b", ALL)
        self.assertEqual(wide.common_places(self.database, ("c", (7, 3, 4))), (ALL,))
        self.assertEqual(wide.with_rules("a", FIRST).common_places(self.database, ("c", (7, 3, 4)), ("a", (2, 6))), (FIRST,))

    def test_errors(self):
        good = ("a", (1, 5))
        self.assertEqual(told_error(chain().common_places, DAY, 5)[0], InvalidDatabase)
        for value in (5, None, "ab", ["a", (1, 5)], ("a",), ("a", (1, 5), 3), (), {"a": 1}):
            self.assertEqual(told_error(chain().common_places, self.database, good, value, ("x", 1))[0], InvalidOperation)
        self.assertEqual(told_error(chain().common_places, self.database, good, ("x", 1), 5), (UnknownName, "x"))
        self.assertEqual(told_error(chain().common_places, self.database, ("a", 1), ("x", 1), 5), (MissingRow, 1))
        self.assertEqual(told_error(chain().common_places, self.database, 5, ("x", 1))[0], InvalidOperation)
        self.assertEqual(told_error(chain().common_places, self.database, ((), ())), (UnknownName, ()))


class ExampleTest(unittest.TestCase):
    def test_example(self):
        self.assertEqual(
            [FAR["item"], FAR.spreads, FAR.places_of(DAY, "ord", (1, 9, 3)), len(FAR), str(NEAR)],
            [(("by", "t", ("code",)),), {"s": 1, "t": 1}, (("by", "s", (1,)),), 3, "placement of 3 tables, 1 spreads"])
        self.assertEqual(
            [place.common_places(DAY, ("cus", (1, 5)), ("item", (9, 7)), ("ord", (1, 9, 3))) for place in (NEAR, FAR)],
            [(("by", "s", (1,)),), ()])


if __name__ == "__main__":
    unittest.main()
