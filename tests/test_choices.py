"""[15.1] to [15.3] and the names of stage 15."""

import itertools
import unittest

from dealtrows.ask.queries import Clause, Query
from dealtrows.base.databases import Database
from dealtrows.base.schemas import Schema
from dealtrows.deal.cases import Case, is_counterexample
from dealtrows.deal.placements import Placement
from dealtrows.decide.verdicts import counterexample_of, is_right_for
from dealtrows.errors import InvalidOperation, InvalidPlacement, InvalidQuery, InvalidRule, InvalidSchema, TooMany
from dealtrows.more import choices
from dealtrows.more.choices import cheapest, choice_certificate, further_rules, is_choice_certificate, selections
from samples import DAY, FAR, IDLE, NEAR, PRICES, SHOP, SIXTY, SIXTY_ONE, SPLIT, TOWNS, odd_but, odd_values, shop_again
from samples import told_error

ALL, FIRST, ANY = ("all",), ("first",), ("any",)
BY, OTHER, WIDE = ("by", "s", ("x",)), ("by", "t", ("x",)), ("by", "s", ("x", "y"))
KINDS = {"cus": ((0, FAR["cus"]),), "item": ((0, FAR["item"]), (5, NEAR["item"])), "ord": ((0, FAR["ord"]),)}
PAIR = Schema({"a": ("x", "y"), "b": ("x", "y")})
JOIN = Query(PAIR, "distinct", Clause((("a", ("x", "y")), ("b", ("x", "z"))), head=("x",)))
ONE = Query(PAIR, "distinct", Clause((("a", ("x", "y")),)))
EITHER = Query(PAIR, "distinct", JOIN.clauses[0], Clause((("b", ("x", "y")), ("a", ("z", "x"))), head=("z",)))
COUNT = Query(PAIR, "count", Clause((("a", ("x", "y")),)))
FOUR = {"a": ((3, (ANY,)), (1, (BY,))), "b": ((2, (ANY,)), (0, (OTHER,)), (2, (BY,)))}


def placed(a, b):
    return Placement(PAIR, a=a, b=b)


def first_of(call, *given):
    return next(iter(call(*given)))


class SelectionsTest(unittest.TestCase):
    def test_order(self):
        self.assertEqual(list(selections(SHOP, KINDS)), [(0, FAR), (5, NEAR)])
        self.assertEqual(list(selections(PAIR, FOUR)), [
            (1, placed((BY,), (OTHER,))), (3, placed((ANY,), (OTHER,))), (3, placed((BY,), (ANY,))),
            (3, placed((BY,), (BY,))), (5, placed((ANY,), (ANY,))), (5, placed((ANY,), (BY,)))])

    def test_equal_costs_are_ordered_by_indices(self):
        options = {"b": ((0, (BY,)), (0, (ANY,))), "a": ((0, (FIRST,)), (0, (ALL,)))}
        self.assertEqual(list(selections(PAIR, options)), [
            (0, placed(a, b)) for a in ((FIRST,), (ALL,)) for b in ((BY,), (ANY,))])
        # An index of the first table counts before one of the next.
        tied = {"a": ((1, (BY,)), (0, (ANY,))), "b": ((1, (BY,)), (0, (ANY,)))}
        self.assertEqual([cost for cost, _ in selections(PAIR, tied)], [0, 1, 1, 2])
        self.assertEqual(list(selections(PAIR, tied))[1], (1, placed((BY,), (ANY,))))

    def test_one_selection(self):
        self.assertEqual(list(selections(PAIR, {"a": ((4, (BY,)),), "b": ((5, (BY,)),)})), [(9, placed((BY,), (BY,)))])

    def test_options_may_differ_in_costs_alone(self):
        options = {"a": ((1, (ALL,)), (0, (ALL,))), "b": ((0, (ALL,)),)}
        self.assertEqual(list(selections(PAIR, options)), [(0, placed((ALL,), (ALL,))), (1, placed((ALL,), (ALL,)))])

    def test_long_costs(self):
        options = {"a": ((SIXTY, (ALL,)), (SIXTY - 1, (ANY,))), "b": ((SIXTY, (ALL,)),)}
        self.assertEqual([cost for cost, _ in selections(PAIR, options)], [2 * SIXTY - 1, 2 * SIXTY])

    def test_tables_called_like_parameters(self):
        schema = Schema({"schema": ("x",), "self": ("x",)})
        options = {"schema": ((0, (ALL,)),), "self": ((0, (FIRST,)),)}
        self.assertEqual(list(selections(schema, options)), [(0, Placement.of(schema, {"schema": (ALL,), "self": (FIRST,)}))])

    def test_spreads_with_two_arities(self):
        for a, b in (((BY,), (WIDE,)), ((ANY, BY), (WIDE,)), ((BY, WIDE), (ALL,))):
            self.assertEqual(told_error(selections, PAIR, {"a": ((0, (ALL,)), (0, a)), "b": ((0, b),)}), None)
            self.assertEqual(told_error(first_of, selections, PAIR, {"a": ((0, (ALL,)), (0, a)), "b": ((0, b),)}),
                             (InvalidRule,))
        # Two options of one table are never taken together.
        self.assertEqual(len(list(selections(PAIR, {"a": ((0, (BY,)), (0, (WIDE,))), "b": ((0, (OTHER,)),)}))), 2)

    def test_choices_that_are_refused(self):
        good = ((0, (ALL,)),)
        wrong_options = (*odd_values(), (), [(0, (ALL,))], good + good, ((-1, (ALL,)),), ((True, (ALL,)),), (("0", (ALL,)),),
                         ((SIXTY_ONE, (ALL,)),), ((0, ALL),), ((0, [ALL]),), ((0, (ALL, ANY)),), ((0, ()),), ((0, (BY, ANY)),),
                         ((0, (ANY, ANY)),), ((0, (ANY, BY, OTHER)),), ((0, (("by", "s", ("z",)),)),), ((0, (("with", "r"),)),),
                         ((0,),), ((0, (ALL,), 1),), (0, (ALL,)), good + (None,), good + ([0, (ANY,)],))
        for value in wrong_options:
            self.assertEqual(told_error(first_of, selections, PAIR, {"a": good, "b": value}), (InvalidRule,), value)
        for value in (*odd_values(), {"a": good}, {"a": good, "b": good, "c": good}, {"a": good, "c": good},
                      (("a", good), ("b", good)), {"a": good, 1: good}):
            self.assertEqual(told_error(first_of, selections, PAIR, value), (InvalidRule,), value)

    def test_too_many_selections(self):
        def options(many, other=1):
            return {"a": tuple((cost, (ALL,)) for cost in range(many)), "b": tuple((cost, (ANY,)) for cost in range(other))}
        self.assertEqual(len(list(selections(PAIR, options(64)))), 64)
        self.assertEqual(len(list(selections(PAIR, options(8, 8)))), 64)
        for call in (lambda *told: first_of(selections, *told), cheapest, choice_certificate):
            for many, other in ((65, 1), (13, 5), (100, 100)):
                self.assertEqual(told_error(call, PAIR, options(many, other)), (TooMany, 64))
        # Choices are wrong before they are too many.
        many = {**options(65), "b": ((0, None),)}
        self.assertEqual(told_error(cheapest, PAIR, many), (InvalidRule,))
        two = {"a": ((0, (BY,)), *options(65)["a"]), "b": ((0, (WIDE,)),)}
        self.assertEqual(told_error(cheapest, PAIR, two), (InvalidRule,))

    def test_what_is_passed_is_not_changed(self):
        passed = {"b": FOUR["b"], "a": FOUR["a"]}
        list(selections(PAIR, passed))
        self.assertEqual(list(passed.items()), [("b", FOUR["b"]), ("a", FOUR["a"])])


class CheapestTest(unittest.TestCase):
    def test_cheapest(self):
        self.assertEqual(cheapest(SHOP, KINDS, TOWNS), (5, NEAR))
        self.assertEqual(cheapest(SHOP, KINDS, PRICES), (0, FAR))
        self.assertIsNone(cheapest(SHOP, KINDS, PRICES, TOWNS))
        self.assertEqual(cheapest(SHOP, KINDS), (0, FAR))
        self.assertEqual(cheapest(PAIR, FOUR, JOIN), (3, placed((BY,), (BY,))))
        self.assertEqual(cheapest(PAIR, FOUR, COUNT, ONE), (1, placed((BY,), (OTHER,))))

    def test_against_all_selections(self):
        options = {"a": ((2, (ALL,)), (1, (ANY,)), (1, (BY,))), "b": ((2, (ALL,)), (1, (FIRST,)), (0, (BY,)))}
        for many in range(3):
            for queries in itertools.product((JOIN, ONE, COUNT, Query(PAIR, "count", *JOIN)), repeat=many):
                right = [selection for selection in selections(PAIR, options)
                         if all(is_right_for(selection[1], query) for query in queries)]
                found = choice_certificate(PAIR, options, *queries)
                self.assertEqual(cheapest(PAIR, options, *queries), right[0] if right else None)
                self.assertEqual(found[0], "cheapest" if right else "none")
                self.assertIs(is_choice_certificate(PAIR, options, queries, found), True)
                order = list(selections(PAIR, options))
                self.assertEqual(len(found[-1]), order.index(right[0]) if right else len(order))
                for (_, placement), (index, case) in zip(order, found[-1]):
                    self.assertTrue(is_counterexample(placement, queries[index], case))
                    self.assertFalse([query for query in queries[:index] if not is_right_for(placement, query)])

    def test_errors_of_decisions_are_raised_where_they_occur(self):
        schema = Schema({"t": ("a", "b", "c", "d")})
        eight = Query(schema, "distinct", Clause((("t", ("a", "b", "c", "d")), ("t", ("e", "f", "g", "h")))))
        wrong = Query(schema, "count", Clause((("t", ("a", "b", "c", "d")),)))
        options = {"t": ((0, (ALL,)), (1, (ANY,)))}
        for call in (cheapest, choice_certificate):
            self.assertEqual(told_error(call, schema, options, eight), (TooMany, 7))
            # The first query is wrong for the first selection, so the second one is asked for the second one only.
            self.assertEqual(told_error(call, schema, options, wrong, eight), (TooMany, 7))
            self.assertEqual(told_error(call, schema, {"t": options["t"][:1]}, wrong, eight), None)
            self.assertEqual(told_error(call, schema, {"t": options["t"][1:]}, wrong), None)

    def test_errors(self):
        for call in (lambda *told: first_of(selections, *told[:2]), cheapest, choice_certificate):
            for value in odd_but(Schema):
                self.assertEqual(told_error(call, value, None, None), (InvalidSchema,))
            self.assertEqual(told_error(call, SHOP, None, None), (InvalidRule,))
        for call in (cheapest, choice_certificate):
            for value in (*odd_but(Query), JOIN, (TOWNS,)):
                self.assertEqual(told_error(call, SHOP, KINDS, value), (InvalidQuery,))
                self.assertEqual(told_error(call, SHOP, KINDS, TOWNS, PRICES, value), (InvalidQuery,))
            # All queries are checked before the first decision.
            two = {"t": ((0, (ALL,)),)}
            schema = Schema({"t": ("a", "b", "c", "d")})
            eight = Query(schema, "distinct", Clause((("t", ("a", "b", "c", "d")), ("t", ("e", "f", "g", "h")))))
            self.assertEqual(told_error(call, schema, two, eight, None), (InvalidQuery,))
            self.assertEqual(told_error(call, schema, {"t": tuple((cost, (ALL,)) for cost in range(65))}, None), (TooMany, 64))
        self.assertEqual(cheapest(shop_again(), KINDS, TOWNS), (5, NEAR))


class CertificatesTest(unittest.TestCase):
    def judge(self, value, queries=(TOWNS,), options=KINDS):
        return is_choice_certificate(SHOP, options, queries, value)

    def test_other_counterexamples(self):
        wide = Case.single(FAR, DAY.with_row("cus", (2, 5)))
        late = Case(FAR, DAY, nodes=3, spreads={("s", (1,)): 1, ("t", (9,)): 2})
        found = choice_certificate(SHOP, KINDS, TOWNS)
        self.assertEqual([found[0], found[1], len(found[2])], ["cheapest", (5, NEAR), 1])
        for case, told in ((SPLIT, True), (late, True), (found[2][0][1], True), (wide, False), (Case.single(FAR, DAY), False),
                           (None, False), (Case.single(NEAR, DAY), False), ((SPLIT,), False)):
            self.assertIs(self.judge(("cheapest", (5, NEAR), ((0, case),))), told)

    def test_spoiled_certificates(self):
        pair = (0, SPLIT)
        good = ("cheapest", (5, NEAR), (pair,))
        self.assertIs(self.judge(good), True)
        for value in (*odd_values(), ("cheapest", (5, NEAR), ()), ("cheapest", (5, NEAR), (pair, pair)), ("none", (pair,)),
                      ("none", (pair, pair)), ("cheapest", (0, FAR), ()), ("cheapest", (5, FAR), (pair,)),
                      ("cheapest", (4, NEAR), (pair,)), ("cheapest", (5, NEAR), ((1, SPLIT),)),
                      ("cheapest", (5, NEAR), ((-1, SPLIT),)), ("cheapest", (5, NEAR), ((False, SPLIT),)),
                      ("cheapest", (5, NEAR), ((None, SPLIT),)), ("cheapest", (5, NEAR), (SPLIT,)),
                      ("cheapest", (5, NEAR), [pair]), ("cheapest", (5, NEAR), ([0, SPLIT],)), ["cheapest", (5, NEAR), (pair,)],
                      ("cheapest", [5, NEAR], (pair,)), ("cheapest", (5, NEAR)), ("cheapest", (5,), (pair,)),
                      ("cheapest", (5, NEAR, 1), (pair,)), ("cheapest", None, (pair,)), ("right", (5, NEAR), (pair,)),
                      (None, (5, NEAR), (pair,)), ("none",), ("cheapest", (5, NEAR), (pair,), ()), ("none", None),
                      ("cheapest", (5, NEAR), ((0, SPLIT, 1),)), ("none", (5, NEAR), (pair,)), ("cheapest", (pair,))):
            self.assertIs(self.judge(value), False, value)

    def test_none(self):
        both = (PRICES, TOWNS)
        found = choice_certificate(SHOP, KINDS, *both)
        self.assertEqual([found[0], [index for index, _ in found[1]]], ["none", [1, 0]])
        case = counterexample_of(NEAR, PRICES)
        self.assertIs(self.judge(("none", ((1, SPLIT), (0, case))), both), True)
        for refused in ((), ((1, SPLIT),), ((0, SPLIT), (0, case)), ((1, SPLIT), (1, case)), ((0, case), (1, SPLIT)),
                        ((1, SPLIT), (0, case), (0, case))):
            self.assertIs(self.judge(("none", refused), both), False)
        self.assertIs(self.judge(("cheapest", (5, NEAR), ((1, SPLIT),)), both), False)

    def test_without_queries(self):
        self.assertEqual(choice_certificate(SHOP, KINDS), ("cheapest", (0, FAR), ()))
        self.assertIs(self.judge(("cheapest", (0, FAR), ()), ()), True)
        self.assertIs(self.judge(("cheapest", (5, NEAR), ((0, SPLIT),)), ()), False)
        self.assertIs(self.judge(("none", ()), ()), False)

    def test_any_wrong_query_refuses(self):
        twice = Query(SHOP, "count", *TOWNS)
        case = counterexample_of(FAR, twice)
        for index, told in ((0, SPLIT), (1, case), (1, SPLIT)):
            self.assertIs(self.judge(("cheapest", (5, NEAR), ((index, told),)), (TOWNS, twice)), True)

    def test_costs_are_no_booleans(self):
        options = {**KINDS, "item": ((0, FAR["item"]), (1, NEAR["item"]))}
        self.assertIs(self.judge(("cheapest", (1, NEAR), ((0, SPLIT),)), options=options), True)
        self.assertIs(self.judge(("cheapest", (True, NEAR), ((0, SPLIT),)), options=options), False)

    def test_decisions_that_raise(self):
        schema = Schema({"t": ("a", "b", "c", "d")})
        eight = Query(schema, "distinct", Clause((("t", ("a", "b", "c", "d")), ("t", ("e", "f", "g", "h")))))
        options = {"t": ((0, (ALL,)),)}
        found = ("cheapest", (0, Placement(schema, t=(ALL,))), ())
        self.assertIs(is_choice_certificate(schema, options, (eight,), found), False)
        self.assertIs(is_choice_certificate(schema, options, (), found), True)
        # An earlier selection is not decided, so that a counterexample is enough.
        by = Placement(schema, t=(("by", "s", ("a",)),))
        two = {"t": ((0, by["t"]), (1, (ALL,)))}
        database_rows = {"t": ((1, 0, 0, 0), (2, 0, 0, 0))}
        joined = Query(schema, "distinct", Clause((("t", ("a", "b", "c", "d")), ("t", ("e", "f", "g", "h"))),
                                                  tests=(("a", "!=", "e"),)))
        case = Case(by, Database(schema, database_rows), nodes=2, spreads={("s", (1,)): 0, ("s", (2,)): 1})
        self.assertEqual(told_error(cheapest, schema, two, joined), (TooMany, 7))
        self.assertIs(is_choice_certificate(schema, two, (joined,), ("cheapest", (1, found[1][1]), ((0, case),))), False)
        self.assertIs(is_choice_certificate(schema, {"t": two["t"][:1]}, (joined,), ("none", ((0, case),))), True)
        rules = by.with_rules("t", ANY, ("by", "s", ("a",)))
        absent = Schema({"p": ("k",), "r": ("k",)})
        query = Query(absent, "count", Clause((("p", ("k",)),), absences=(("r", ("k",)),)))
        offered = {"p": ((0, (ALL,)),), "r": ((0, rules["t"][:1] + (FIRST,)),)}
        chosen = ("cheapest", (0, Placement(absent, p=(ALL,), r=(ANY, FIRST))), ())
        self.assertEqual(told_error(cheapest, absent, offered, query), (InvalidOperation,))
        self.assertIs(is_choice_certificate(absent, offered, (query,), chosen), False)

    def test_errors(self):
        for value in odd_but(Schema):
            self.assertEqual(told_error(is_choice_certificate, value, None, None, None), (InvalidSchema,))
        self.assertEqual(told_error(is_choice_certificate, SHOP, None, None, None), (InvalidRule,))
        many = {**KINDS, "item": tuple((cost, (ALL,)) for cost in range(65))}
        self.assertEqual(told_error(is_choice_certificate, SHOP, many, None, None), (TooMany, 64))
        for value in (*odd_values(), TOWNS, [TOWNS], (TOWNS, None), (JOIN,)):
            if value != ():
                self.assertEqual(told_error(is_choice_certificate, SHOP, KINDS, value, None), (InvalidQuery,))


def least_sets(placement, query, offers):
    """The least sets of offers, by the words of the document."""
    right = {}
    for size in range(len(offers) + 1):
        for chosen in itertools.combinations(offers, size):
            rules = {}
            for table, told in placement.rules.items():
                every = set(told) | {rule for other, rule in chosen if other == table}
                rules[table] = (ALL,) if ALL in every else tuple(sorted(every))
            try:
                deal = Placement.of(placement.schema, rules)
            except ValueError:
                continue
            right[chosen] = is_right_for(deal, query)
    return tuple(sorted(told for told in right if right[told] and not any(
        right[other] for other in right if set(other) < set(told))))


class FurtherTest(unittest.TestCase):
    def test_least_sets(self):
        every, by = ("item", ALL), ("ord", ("by", "t", ("item",)))
        self.assertEqual(further_rules(FAR, TOWNS, (every,)), ((every,),))
        self.assertEqual(further_rules(FAR, TOWNS, (("cus", ALL), every)), ((("cus", ALL),), (every,)))
        self.assertEqual(further_rules(FAR, TOWNS, (by,)), ())
        self.assertEqual(further_rules(FAR, TOWNS, ()), ())
        self.assertEqual(further_rules(NEAR, TOWNS, (every, by)), ((),))

    def test_several_offers_together(self):
        deal = placed((ANY,), (ANY,))
        offers = (("a", ALL), ("a", BY), ("b", FIRST), ("b", BY))
        offers = tuple(sorted(offers))
        self.assertEqual(further_rules(deal, JOIN, offers), ((("a", ALL),), (("a", BY), ("b", BY))))
        self.assertEqual(further_rules(deal, ONE, offers), ((),))

    def test_against_all_sets(self):
        wide = ("by", "s", ("x", "y"))
        for deal in (placed((ANY,), (ANY,)), placed((BY,), (OTHER,)), placed((ANY, OTHER), (FIRST,)), placed((ALL,), (ANY,))):
            for a, b in itertools.product(((), (ALL,), (BY,), (FIRST, BY), (ALL, BY), (wide,)), repeat=2):
                offers = tuple(sorted([("a", rule) for rule in a] + [("b", rule) for rule in b]))
                for query in (JOIN, ONE, EITHER):
                    self.assertEqual(further_rules(deal, query, offers), least_sets(deal, query, offers), (offers, deal.rules))

    def test_offers_that_cannot_be_taken_together(self):
        # Three rules, or a spread with two arities, make no placement; ("all",) takes the place of all others.
        full = placed((ANY, FIRST), (BY,))
        self.assertEqual(further_rules(full, JOIN, (("a", BY),)), ())
        self.assertEqual(further_rules(full, JOIN, (("a", ALL), ("a", BY))), ((("a", ALL),),))
        clash = placed((ANY,), (BY,))
        self.assertEqual(further_rules(clash, JOIN, (("a", WIDE),)), ())
        self.assertEqual(further_rules(clash, JOIN, (("a", BY), ("a", WIDE))), ((("a", BY),),))
        both = placed((BY,), (ANY,))
        self.assertEqual(further_rules(both, JOIN, (("b", WIDE), ("b", ("by", "t", ("x", "y"))))), ())

    def test_rules_that_are_there_already(self):
        self.assertEqual(further_rules(FAR, TOWNS, (("cus", FAR["cus"][0]), ("item", ALL))), ((("item", ALL),),))

    def test_six_and_seven_offers(self):
        rules = [("by", spread, ("y",)) for spread in ("c", "d", "e", "f", "g", "h", "i")]
        deal = placed((BY,), (FIRST,))
        self.assertEqual(further_rules(deal, JOIN, tuple(("b", rule) for rule in rules[:6])), ())
        self.assertEqual(told_error(further_rules, deal, JOIN, tuple(("b", rule) for rule in rules)), (TooMany, 6))

    def test_errors_of_decisions(self):
        schema = Schema({"t": ("a", "b", "c", "d")})
        eight = Query(schema, "distinct", Clause((("t", ("a", "b", "c", "d")), ("t", ("e", "f", "g", "h")))))
        self.assertEqual(told_error(further_rules, Placement(schema, t=(ANY,)), eight, ()), (TooMany, 7))
        # Sets with a right one in them are not decided, others are.
        wide = Schema({"a": ("x", "y"), "b": ("x", "y"), "c": ("x", "y")})
        query = Query(wide, "distinct", Clause((("a", ("x", "y")), ("b", ("z", "u")), ("c", ("v", "w")))))
        many = tuple((name, ("by", spread, ("y",))) for name, spread in (("a", "p"), ("b", "q"), ("c", "r")))
        deal = Placement(wide, a=(("by", "i", ("x",)),), b=(("by", "j", ("x",)),), c=(("by", "k", ("x",)),))
        self.assertEqual(told_error(further_rules, deal, query, many), None)

    def test_errors(self):
        for value in odd_but(Placement):
            self.assertEqual(told_error(further_rules, value, None, None), (InvalidPlacement,))
        for value in (*odd_but(Query), JOIN):
            self.assertEqual(told_error(further_rules, NEAR, value, None), (InvalidQuery,))
        item = ("item", ALL)
        for value in (*odd_values(), [item], (item, item), (("ord", ANY), item), (("none", ALL),), (item, None), (("item",),),
                      (("item", ALL, 1),), (("item", (ALL,)),), (("item", ("with", "oc")),), (("item", ("by", "s", ("no",))),),
                      (["item", ALL],), ((None, ALL),), (("item", None),), ((("item",), ALL),), item):
            if value != ():
                self.assertEqual(told_error(further_rules, NEAR, TOWNS, value), (InvalidRule,), value)
                self.assertEqual(told_error(further_rules, NEAR, PRICES, value), (InvalidRule,), value)
        seven = tuple(("cus", ("by", spread, ("code",))) for spread in "abcdefg")
        for query in (PRICES, Query(SHOP, "distinct", IDLE), Query(SHOP, "sum", Clause((("item", ("i", "p")),), summed="p"))):
            self.assertEqual(told_error(further_rules, NEAR, query, seven), (InvalidOperation,))
        self.assertEqual(told_error(further_rules, NEAR, TOWNS, seven), (TooMany, 6))


class ConstantsTest(unittest.TestCase):
    def test_constants(self):
        self.assertEqual([choices.MAX_SELECTIONS, choices.MAX_OFFERS], [64, 6])


if __name__ == "__main__":
    unittest.main()
