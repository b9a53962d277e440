"""[14.1] to [14.4] and the names of stage 14."""

import itertools
import unittest

from dealtrows.ask.matches import answer_on
from dealtrows.ask.queries import Clause, Query
from dealtrows.base.schemas import Schema
from dealtrows.base.databases import first_broken
from dealtrows.deal.cases import is_counterexample
from dealtrows.deal.placements import Placement
from dealtrows.decide.verdicts import is_right_for
from dealtrows.errors import InvalidClause, InvalidOperation, InvalidPlacement, InvalidQuery, InvalidSchema, TooMany
from dealtrows.errors import UnknownName
from dealtrows.more.checks import clause_check, is_noticed, key_check, noticed, reference_check, relaxed, unnoticed
import naive
from samples import FAR, IDLE, NEAR, PRICES, SHOP, SIXTY_ONE, TOWNS, odd_but, odd_values, shop_again, told_error

ALL, FIRST, ANY = ("all",), ("first",), ("any",)
# Rows of c refer to rows of p; p has a key to which this leads and another one, d a key of all columns.
KEYS = Schema({"c": ("k", "x"), "d": ("k", "x"), "p": ("k", "y", "z")},
              keys={"c": (("x",),), "d": (("k",), ("k", "x")), "p": (("k",), ("y",))},
              references={"cp": ("c", ("k",), "p", ("k",))})
# A reference whose parent table has a reference of its own, and one that leads to a table by another way, too.
CHAIN = Schema({"a": ("k",), "b": ("k",), "c": ("k",)}, keys={"b": (("k",),), "c": (("k",),)},
               references={"ab": ("a", ("k",), "b", ("k",)), "bc": ("b", ("k",), "c", ("k",)),
                           "ac": ("a", ("k",), "c", ("k",))})


def keys(c=(("by", "s", ("k",)),), d=(FIRST,), p=(("by", "s", ("k",)),)):
    return Placement(KEYS, c=c, d=d, p=p)


def all_row_dicts(schema, table, more=(), values=(0, 1), most=3):
    """Dicts of at most so many rows of a table, and of rows of another one."""
    pairs = [pair for pair in naive.all_rows(schema, values) if pair[0] in (table, *more)]
    for size in range(most + 1):
        for chosen in itertools.combinations(pairs, size):
            yield {name: tuple(row for other, row in chosen if other == name) for name in (table, *more)}


def breaks_key(schema, rows, table, key):
    columns = schema.columns_of(table)
    told = [tuple(row[columns.index(column)] for column in key) for row in rows[table]]
    return len(set(told)) < len(told)


class ChecksTest(unittest.TestCase):
    def test_key_checks_match_what_breaks_the_key(self):
        for table, key in (("c", ("x",)), ("d", ("k",)), ("p", ("y",))):
            check = key_check(KEYS, table, key)
            self.assertEqual([check.schema, check.form, check.width], [KEYS.without_key(table, key), "distinct", 0])
            self.assertEqual(len(check), len(KEYS.columns_of(table)) - 1)
            for rows in all_row_dicts(KEYS, table):
                self.assertEqual(bool(answer_on(check, rows)), breaks_key(KEYS, rows, table, key), (table, key, rows))

    def test_form_of_key_checks(self):
        for clause, column in zip(key_check(KEYS, "p", ("y",)), ("k", "z")):
            (table, one), (again, other) = clause.parts
            at = KEYS.columns_of("p").index(column)
            self.assertEqual([table, again, one[1] == other[1], clause.absences, clause.head], ["p", "p", True, (), ()])
            self.assertEqual(len(set(one + other)), 5)
            ((low, word, high),) = clause.tests
            self.assertEqual([word, {low, high}], ["!=", {one[at], other[at]}])
        wide = Schema({"t": ("a", "b", "c", "d")}, keys={"t": (("b", "d"),)})
        check = key_check(wide, "t", ("b", "d"))
        self.assertEqual([len(check), check.schema], [2, Schema(wide.tables)])
        self.assertEqual(answer_on(check, {"t": ((0, 1, 0, 1), (0, 1, 1, 1))}).heads, ((),))
        self.assertEqual(answer_on(check, {"t": ((0, 1, 0, 1), (0, 1, 1, 2))}).heads, ())

    def test_reference_checks_match_what_breaks_the_reference(self):
        for schema, name, table, parent in ((KEYS, "cp", "c", "p"), (SHOP, "oi", "ord", "item"), (CHAIN, "bc", "b", "c")):
            check = reference_check(schema, name)
            self.assertEqual([check.schema, check.form, check.width, len(check)],
                             [schema.without_reference(name), "distinct", 0, 1])
            for rows in all_row_dicts(schema, table, (parent,), most=2):
                bare = Schema(schema.tables, keys={parent: schema.keys_of(parent)},
                              references={name: schema.references[name]})
                self.assertEqual(bool(answer_on(check, rows)), first_broken(bare, rows) == ("reference", name), rows)

    def test_references_in_another_order(self):
        schema = Schema({"a": ("x", "y", "z"), "b": ("k", "l", "m")}, keys={"b": (("k", "m"),)},
                        references={"ab": ("a", ("z", "x"), "b", ("k", "m"))})
        check = reference_check(schema, "ab")
        (part,), (absence,) = check.clauses[0].parts, check.clauses[0].absences
        self.assertEqual([part[0], absence[0], absence[1][0] == part[1][2], absence[1][2] == part[1][0]],
                         ["a", "b", True, True])
        self.assertEqual([len(check.clauses[0].free), len(set(part[1] + absence[1]))], [1, 4])
        self.assertFalse(answer_on(check, {"a": ((1, 2, 3),), "b": ((3, 9, 1),)}))
        self.assertTrue(answer_on(check, {"a": ((1, 2, 3),), "b": ((1, 9, 3),)}))

    def test_clause_checks(self):
        clause = Clause((("item", ("i", "p")),), tests=(("p", "!=", 7),), head=("i",), summed="p")
        check = clause_check(SHOP, clause)
        self.assertEqual(check, Query(SHOP, "distinct", Clause(clause.parts, tests=clause.tests)))
        self.assertEqual(clause_check(SHOP, IDLE), Query(SHOP, "distinct", IDLE.with_head(())))
        self.assertEqual(answer_on(check, {"item": ((1, 7), (2, 8))}).heads, ((),))
        self.assertEqual(answer_on(check, {"item": ((1, 7),)}).heads, ())

    def test_an_equal_schema_is_enough(self):
        again = shop_again()
        self.assertEqual(reference_check(again, "oi"), reference_check(SHOP, "oi"))
        self.assertEqual(key_check(again, "ord", ("no",)), key_check(SHOP, "ord", ("no",)))

    def test_errors_of_keys(self):
        for value in odd_but(Schema):
            self.assertEqual(told_error(key_check, value, None, None), (InvalidSchema,))
        for value in (*odd_values(), "e", ("c",)):
            error = told_error(key_check, KEYS, value, None)
            self.assertEqual(error[:1], (UnknownName,))
            self.assertEqual(repr(error[1]), repr(value))
        for value in (*odd_values(), (), ("y",), ("k", "x"), "x", ["x"], (True,)):
            self.assertEqual(told_error(key_check, KEYS, "c", value), (InvalidOperation,), value)
        # A reference leads to the key, or it has all columns.
        self.assertEqual(told_error(key_check, KEYS, "p", ("k",)), (InvalidOperation,))
        self.assertEqual(told_error(key_check, KEYS, "d", ("k", "x")), (InvalidOperation,))
        self.assertEqual(told_error(key_check, CHAIN, "c", ("k",)), (InvalidOperation,))

    def test_errors_of_references(self):
        for value in odd_but(Schema):
            self.assertEqual(told_error(reference_check, value, None), (InvalidSchema,))
        for value in (*odd_values(), "c", "xy", ("cp",)):
            error = told_error(reference_check, KEYS, value)
            self.assertEqual(error[:1], (UnknownName,))
            self.assertEqual(repr(error[1]), repr(value))
        # The parent table has a reference of its own, or another way leads to it.
        self.assertEqual(told_error(reference_check, CHAIN, "ab"), (InvalidOperation,))
        self.assertEqual(told_error(reference_check, CHAIN, "ac"), (InvalidOperation,))

    def test_errors_of_clauses(self):
        for value in odd_but(Schema):
            self.assertEqual(told_error(clause_check, value, None), (InvalidSchema,))
        for value in odd_but(Clause):
            self.assertEqual(told_error(clause_check, SHOP, value), (InvalidClause,))
        for clause in (Clause((("none", ("x",)),)), Clause((("item", ("x",)),)), Clause(IDLE.parts[:1], absences=IDLE.absences),
                       Clause((("ord", (1, 2, 3)), ("ord", (4, 5, "x"))))):
            self.assertEqual(told_error(clause_check, SHOP, clause), (InvalidQuery,))


class RelaxedTest(unittest.TestCase):
    def test_placements(self):
        self.assertEqual(relaxed(NEAR, ("reference", "oi")), Placement.of(SHOP.without_reference("oi"), NEAR.rules))
        self.assertEqual(relaxed(NEAR, ("key", "ord", ("no",))), Placement.of(SHOP.without_key("ord", ("no",)), NEAR.rules))
        self.assertEqual(relaxed(NEAR, ("never", IDLE)), NEAR)
        self.assertEqual(relaxed(NEAR, ("never", Clause((("item", ("i", "p")),), summed="p", head=("i",)))), NEAR)
        self.assertEqual(relaxed(keys(), ("key", "d", ("k", "x"))),
                         Placement.of(KEYS.without_key("d", ("k", "x")), keys().rules))

    def test_a_rule_that_uses_the_reference(self):
        for constraint in (("reference", "oc"), ("key", "cus", ("code",))):
            for call in (relaxed, is_noticed, unnoticed):
                self.assertEqual(told_error(call, NEAR, constraint), (InvalidOperation,))
        two = NEAR.with_rules("ord", ("any",), ("with", "oc"))
        self.assertEqual(told_error(relaxed, two, ("reference", "oc")), (InvalidOperation,))
        bare = NEAR.with_rules("ord", ANY)
        self.assertEqual(relaxed(bare, ("reference", "oc")).schema, SHOP.without_reference("oc"))

    def test_errors(self):
        wrong = (*odd_values(), ("key", "ord"), ("key", "ord", ("code",)), ("key", "ord", ["no"]), ("key", "none", ("no",)),
                 ("key", ["ord"], ("no",)), ("reference", "none"), ("reference", "oi", "ord"), ("reference", ["oi"]),
                 ("reference", None), ["reference", "oi"], ("never", None), ("never", PRICES), ("never", IDLE, IDLE),
                 ("never", Clause((("none", ("x",)),))), ("never", Clause((("item", ("x",)),))), ("always", IDLE),
                 ("oi",), (), (True, "oi"), ("key", "ord", ("no",), 1), ("key", "ord", (SIXTY_ONE,)))
        for call in (relaxed, is_noticed, unnoticed):
            for value in odd_but(Placement):
                self.assertEqual(told_error(call, value, None), (InvalidPlacement,))
            for value in wrong:
                self.assertEqual(told_error(call, NEAR, value), (InvalidOperation,), value)


class NoticedTest(unittest.TestCase):
    def check(self, placement, constraint, is_told):
        """Whether the placement notices a constraint, and by the words of the document."""
        self.assertIs(is_noticed(placement, constraint), is_told)
        case = unnoticed(placement, constraint)
        self.assertEqual(case is None, is_told)
        deal = relaxed(placement, constraint)
        if constraint[0] == "key":
            check = key_check(placement.schema, *constraint[1:])
        elif constraint[0] == "reference":
            check = reference_check(placement.schema, constraint[1])
        else:
            check = clause_check(placement.schema, constraint[1])
        self.assertIs(is_right_for(deal, check), is_told)
        if case is not None:
            self.assertTrue(is_counterexample(deal, check, case))
            at_nodes = [bool(case.local(check, node)) for node in range(case.nodes)]
            self.assertNotEqual(any(at_nodes), bool(check(case.database)))
        return deal, check

    def test_keys(self):
        plain = Schema({"t": ("k", "x")}, keys={"t": (("k",),)})
        for rules, is_told in (((ALL,), True), ((FIRST,), True), ((("by", "s", ("k",)),), True), ((ANY,), False),
                               ((("by", "s", ("x",)),), False), ((("by", "s", ("k", "x")),), False),
                               ((ANY, ("by", "s", ("k",))), True)):
            deal, check = self.check(Placement(plain, t=rules), ("key", "t", ("k",)), is_told)
            small = naive.all_cases(deal, (0, 1), 2, 2)
            wrong = [case for case in small if bool(case(check)) != bool(case.whole(check))]
            self.assertEqual(not wrong, is_told)

    def test_keys_of_several_columns(self):
        two = Schema({"t": ("k", "l", "x")}, keys={"t": (("k", "l"),)})
        for columns, is_told in ((("k",), True), (("l", "k"), True), (("k", "x"), False)):
            self.check(Placement(two, t=(("by", "s", columns),)), ("key", "t", ("k", "l")), is_told)

    def test_keys_beside_a_reference(self):
        self.check(keys(), ("key", "c", ("x",)), False)
        self.check(keys(c=(("by", "s", ("x",)),)), ("key", "c", ("x",)), True)
        self.check(keys(), ("key", "p", ("y",)), False)
        self.check(keys(p=(FIRST,)), ("key", "p", ("y",)), True)

    def test_keys_of_all_columns_are_noticed(self):
        for rules in ((FIRST,), (ANY,), (("by", "s", ("x",)),)):
            self.assertIs(is_noticed(keys(d=rules), ("key", "d", ("k", "x"))), True)
            self.assertIsNone(unnoticed(keys(d=rules), ("key", "d", ("k", "x"))))
        # Not if a reference leads to one.
        self.assertEqual(told_error(is_noticed, Placement(CHAIN, a=(ALL,), b=(ALL,), c=(ALL,)), ("key", "c", ("k",))),
                         (InvalidOperation,))

    def test_references(self):
        self.check(NEAR, ("reference", "oi"), True)
        self.check(FAR, ("reference", "oi"), False)
        self.check(keys(), ("reference", "cp"), True)
        self.check(keys(p=(ANY,)), ("reference", "cp"), False)
        self.check(keys(p=(("by", "s", ("y",)),)), ("reference", "cp"), False)
        self.check(keys(p=(ALL,), c=(ANY,)), ("reference", "cp"), True)
        self.check(keys(p=(FIRST,), c=(ANY,)), ("reference", "cp"), False)

    def test_never(self):
        self.check(NEAR, ("never", TOWNS.clauses[0]), True)
        self.check(FAR, ("never", TOWNS.clauses[0]), False)
        self.check(NEAR, ("never", PRICES.clauses[0]), True)
        self.check(NEAR, ("never", Clause((("item", ("i", "p")), ("item", ("j", "p"))), tests=(("i", "!=", "j"),),
                                          summed="i")), True)
        self.check(FAR, ("never", IDLE), False)

    def test_errors_of_checks(self):
        chain = Placement(CHAIN, a=(ALL,), b=(ALL,), c=(ALL,))
        two = keys(p=(ANY, ("by", "s", ("k",))))
        for call in (is_noticed, unnoticed):
            # There is no check, the table of the absence has two rules, there are too many symbols.
            self.assertEqual(told_error(call, chain, ("reference", "ab")), (InvalidOperation,))
            self.assertEqual(told_error(call, two, ("reference", "cp")), (InvalidOperation,))
            self.assertEqual(told_error(call, NEAR, ("key", "ord", ("no",))), (TooMany, 7))
        self.assertEqual(relaxed(chain, ("reference", "ab")).schema, CHAIN.without_reference("ab"))

    def test_dicts(self):
        self.assertEqual(noticed(NEAR), {
            ("key", "cus", ("code",)): None, ("key", "item", ("code",)): None, ("key", "ord", ("no",)): None,
            ("reference", "oc"): None, ("reference", "oi"): True})
        self.assertIs(noticed(FAR)[("reference", "oi")], False)
        found = noticed(keys())
        self.assertEqual(found, {
            ("key", "c", ("x",)): False, ("key", "d", ("k",)): True, ("key", "d", ("k", "x")): True,
            ("key", "p", ("k",)): None, ("key", "p", ("y",)): False, ("reference", "cp"): True})
        self.assertEqual(list(found), sorted(found))
        two = noticed(keys(p=(ANY, ("by", "s", ("k",)))))
        self.assertIsNone(two[("reference", "cp")])
        bare = Schema({"t": ("k",)})
        self.assertEqual(noticed(Placement(bare, t=(ALL,))), {})
        for value in odd_but(Placement):
            self.assertEqual(told_error(noticed, value), (InvalidPlacement,))


if __name__ == "__main__":
    unittest.main()
