"""[0.19], [0.20], class Case and is_counterexample."""

import unittest

from dealtrows.ask.queries import Clause, Query
from dealtrows.base.answers import Answer
from dealtrows.base.databases import Database
from dealtrows.base.schemas import Schema
from dealtrows.deal import cases
from dealtrows.deal.cases import Case, is_counterexample
from dealtrows.deal.placements import Placement
from dealtrows.errors import InvalidCase, InvalidDatabase, InvalidNumber, InvalidPlacement, InvalidQuery, MissingRow
from dealtrows.errors import TooMany, UnknownName
from samples import DAY, FAR, IDLE, NEAR, PRICES, SHOP, SIXTY_ONE, SPLIT, TOWNS, case_with, odd_but, odd_values
from samples import raised, shop_again, told_error

ALL, FIRST, ANY = ("all",), ("first",), ("any",)
FREE = Schema({"a": ("x", "y"), "b": ("x",), "c": ("x", "y")})
# Each kind of rule, and a table with two.
EACH = Placement(FREE, a=(ANY, ("by", "s", ("x",))), b=(ALL,), c=(FIRST,))
ROWS = {"a": ((1, 5), (2, 6)), "b": ((1,), (7,)), "c": ((3, 3),)}
PLACES = {("any", "a", (1, 5)): 0, ("any", "a", (2, 6)): 2, ("by", "s", (1,)): 1, ("by", "s", (2,)): 2, FIRST: 0}
EVERY = Case.of_places(EACH, Database(FREE, ROWS), 3, PLACES)
WRONG_NODES = (0, 10, -1, True, False, None, "1", (1,), SIXTY_ONE)


def query(form, *parts, head=(), summed=None, absences=(), schema=FREE):
    return Query(schema, form, Clause(parts, head=head, summed=summed, absences=absences))


class CaseTest(unittest.TestCase):
    def case(self, **more):
        told = {"nodes": 3, "spreads": {("s", (1,)): 1, ("s", (2,)): 2}, "lone": {("a", (1, 5)): 0, ("a", (2, 6)): 2}}
        return Case(EACH, Database(FREE, ROWS), **{**told, **more})

    def test_constant(self):
        self.assertEqual(cases.MAX_NODES, 9)

    def test_properties(self):
        case = self.case()
        self.assertEqual([case.placement, case.database, case.nodes], [EACH, Database(FREE, ROWS), 3])
        self.assertEqual(case.spreads, {("s", (1,)): 1, ("s", (2,)): 2})
        self.assertEqual(case.lone, {("a", (1, 5)): 0, ("a", (2, 6)): 2})
        self.assertEqual(case.places, PLACES)
        self.assertEqual([list(case.spreads), list(case.lone), list(case.places)],
                         [sorted(case.spreads), sorted(case.lone), sorted(PLACES)])

    def test_order_of_passed_dicts_does_not_matter(self):
        turned = dict(reversed(PLACES.items()))
        self.assertEqual(list(Case.of_places(EACH, EVERY.database, 3, turned).places), sorted(PLACES))
        case = self.case(spreads={("s", (2,)): 2, ("s", (1,)): 1}, lone={("a", (2, 6)): 2, ("a", (1, 5)): 0})
        self.assertEqual([list(case.spreads), list(case.places)], [[("s", (1,)), ("s", (2,))], sorted(PLACES)])

    def test_both_ways_are_equal(self):
        self.assertEqual(self.case(), EVERY)
        self.assertEqual(SPLIT, Case.of_places(FAR, DAY, 2, {("by", "s", (1,)): 0, ("by", "t", (9,)): 1}))

    def test_numbers_of_nodes(self):
        empty = Database(SHOP)
        self.assertEqual([Case(NEAR, empty, nodes=nodes).nodes for nodes in (1, 9)], [1, 9])
        for nodes in WRONG_NODES:
            self.assertEqual(told_error(Case, NEAR, empty, nodes=nodes, spreads=1, lone=1), (InvalidNumber, nodes))
            self.assertEqual(told_error(Case.of_places, NEAR, empty, nodes, 1), (InvalidNumber, nodes))

    def test_dicts_that_are_refused(self):
        good = {("s", (1,)): 1, ("s", (2,)): 2}
        wrong = (None, {}, {("s", (1,)): 1}, {**good, ("s", (3,)): 0}, {**good, ("t", (1,)): 0}, {**good, ("s", (1,)): 3},
                 {**good, ("s", (1,)): -1}, {**good, ("s", (1,)): True}, {**good, ("s", (1,)): None}, {**good, ("s", (1,)): "1"},
                 {("s", (True,)): 1, ("s", (2,)): 2}, {("s", 1): 1, ("s", 2): 2}, {"s": 1, "t": 2}, tuple(good.items()),
                 {**good, ("s", (2,)): SIXTY_ONE}, {("a", (1, 5)): 0, ("a", (2, 6)): 2}, {**good, None: 0}, *odd_values())
        for spreads in wrong:
            with self.assertRaises(InvalidCase):
                self.case(spreads=spreads)
        good = {("a", (1, 5)): 0, ("a", (2, 6)): 2}
        wrong = (None, {}, {("a", (1, 5)): 0}, {**good, ("a", (1, 6)): 0}, {**good, ("b", (1,)): 0}, {**good, ("a", (1, 5)): 3},
                 {("a", (True, 5)): 0, ("a", (2, 6)): 2}, {**good, ("a", (1, 5)): True}, {**good, ("a", (2, 6)): -1},
                 {(1, 5): 0, (2, 6): 0}, tuple(good), *odd_values())
        for lone in wrong:
            with self.assertRaises(InvalidCase):
                self.case(lone=lone)

    def test_places_that_are_refused(self):
        wrong = (None, {}, {**PLACES, FIRST: 1}, {**PLACES, FIRST: True}, {**PLACES, FIRST: False}, {**PLACES, ALL: 0},
                 {place: PLACES[place] for place in PLACES if place != FIRST}, {**PLACES, ("by", "s", (3,)): 0},
                 {**PLACES, ("any", "a", (1, 5)): 3}, {**PLACES, ("by", "s", (2,)): -1}, tuple(PLACES.items()),
                 {**{place: PLACES[place] for place in PLACES if place[0] != "by"}, ("by", "s", (True,)): 1, ("by", "s", (2,)): 2},
                 *odd_values())
        for places in wrong:
            with self.assertRaises(InvalidCase):
                Case.of_places(EACH, EVERY.database, 3, places)
        # Without the place ("first",) there is nothing to tell of node 0.
        self.assertEqual(case_with(FAR, DAY.rows, 2, {("by", "s", (1,)): 1}).nodes_of("cus", (1, 5)), (1,))

    def test_order_of_errors(self):
        for call in (lambda *told, **more: Case(*told, nodes=0, **more), lambda *told: Case.of_places(*told, 0, 1)):
            self.assertEqual(told_error(call, None, None), (InvalidPlacement,))
            self.assertEqual(told_error(call, EACH, DAY), (InvalidDatabase,))
            self.assertEqual(told_error(call, EACH, None), (InvalidDatabase,))
            self.assertEqual(told_error(call, EACH, EVERY.database), (InvalidNumber, 0))
        self.assertEqual(told_error(Case.single, None, None), (InvalidPlacement,))
        for value in (*odd_but(Placement), ROWS):
            self.assertEqual(told_error(Case.single, EACH, value), (InvalidDatabase,))
            self.assertEqual(told_error(Case.single, value, EVERY.database), (InvalidPlacement,))
        self.assertEqual(told_error(Case.of_places, EACH, EVERY.database, 0, PLACES), (InvalidNumber, 0))

    def test_an_equal_schema_is_enough(self):
        again = Database(shop_again(), DAY.rows)
        self.assertEqual(Case.single(FAR, again), Case.single(FAR, DAY))
        self.assertEqual(Case.single(FAR, again).whole(TOWNS).heads, ((5,),))

    def test_single(self):
        case = Case.single(EACH, EVERY.database)
        self.assertEqual([case.nodes, set(case.places.values()), list(case.places)], [1, {0}, sorted(PLACES)])
        self.assertEqual(case.rows_at(0), EVERY.database.rows)

    def test_with_nodes(self):
        self.assertEqual([EVERY.with_nodes(nodes).nodes for nodes in (3, 4, 9)], [3, 4, 9])
        self.assertEqual(EVERY.with_nodes(5).places, PLACES)
        self.assertEqual(EVERY.with_nodes(9).nodes_of("b", (1,)), tuple(range(9)))
        self.assertEqual(EVERY.with_nodes(3), EVERY)
        for nodes in (1, 2, *WRONG_NODES):
            self.assertEqual(told_error(EVERY.with_nodes, nodes), (InvalidNumber, nodes))
        self.assertEqual(Case.single(NEAR, Database(SHOP)).with_nodes(4).with_nodes(1).nodes, 1)

    def test_length_text_and_equality(self):
        self.assertEqual([len(EVERY), str(EVERY), str(SPLIT), len(Case.single(NEAR, Database(SHOP)))],
                         [5, "case of 3 nodes, 5 rows", "case of 2 nodes, 3 rows", 0])
        others = (EVERY.with_nodes(4), Case.of_places(EACH, EVERY.database, 3, {**PLACES, ("by", "s", (2,)): 1}),
                  Case.single(EACH, EVERY.database).with_nodes(3), SPLIT)
        for other in (*others, *odd_values(), EACH, PLACES):
            self.assertIs(EVERY == other, False)
            self.assertIs(EVERY != other, True)
        fewer = EVERY.database.without_row("b", (7,))
        self.assertNotEqual(EVERY, Case.of_places(EACH, fewer, 3, PLACES))
        self.assertNotEqual(Case.single(NEAR, Database(SHOP)), Case.single(FAR, Database(SHOP)))

    def test_is_not_iterated_over(self):
        with self.assertRaises(TypeError):
            list(EVERY)

    def test_nothing_is_shared(self):
        spreads, lone = {("s", (1,)): 1, ("s", (2,)): 2}, {("a", (1, 5)): 0, ("a", (2, 6)): 2}
        case = self.case(spreads=spreads, lone=lone)
        places = dict(PLACES)
        other = Case.of_places(EACH, EVERY.database, 3, places)
        for told in (spreads, lone, places, case.spreads, case.lone, case.places, case.rows_at(1), other.places):
            told.clear()
        self.assertEqual([case, case.places, case.rows_at(1), other.rows_at(2)],
                         [EVERY, PLACES, EVERY.rows_at(1), EVERY.rows_at(2)])
        self.assertEqual(len(EVERY.rows_at(1)), 3)


class NodesTest(unittest.TestCase):
    def test_nodes_of(self):
        told = {("a", (1, 5)): (0, 1), ("a", (2, 6)): (2,), ("b", (1,)): (0, 1, 2), ("b", (7,)): (0, 1, 2), ("c", (3, 3)): (0,)}
        self.assertEqual({pair: EVERY.nodes_of(*pair) for pair in told}, told)

    def test_a_row_can_lie_everywhere_and_elsewhere(self):
        placement = NEAR.with_rules("ord", ("with", "oi"), ANY)
        case = case_with(placement, DAY.rows, 3, {("any", "ord", (1, 9, 3)): 2})
        self.assertEqual([case.nodes_of("ord", (1, 9, 3)), case.nodes_of("cus", (1, 5))], [(0, 1, 2), (0,)])

    def test_rows_at(self):
        self.assertEqual(EVERY.rows_at(0), {"a": ((1, 5),), "b": ((1,), (7,)), "c": ((3, 3),)})
        self.assertEqual(EVERY.rows_at(1), {"a": ((1, 5),), "b": ((1,), (7,)), "c": ()})
        self.assertEqual(EVERY.rows_at(2), {"a": ((2, 6),), "b": ((1,), (7,)), "c": ()})
        self.assertEqual([list(EVERY.rows_at(2)), list(Case.single(NEAR, Database(SHOP)).rows_at(0))],
                         [["a", "b", "c"], ["cus", "item", "ord"]])

    def test_errors(self):
        for table in ("x", None, []):
            self.assertEqual(told_error(EVERY.nodes_of, table, 1), (UnknownName, table))
        for row in ((1,), (1, 6), None, [1, 5], (True, 5)):
            self.assertEqual(told_error(EVERY.nodes_of, "a", row), (MissingRow, row))
        for node in (3, -1, True, False, None, "0", (0,), SIXTY_ONE):
            self.assertEqual(told_error(EVERY.rows_at, node), (InvalidNumber, node))
            self.assertEqual(told_error(EVERY.local, query("count", ("a", ("x", "y"))), node), (InvalidNumber, node))


class AnswersTest(unittest.TestCase):
    def check(self, asked, combined, whole, local):
        self.assertEqual([EVERY(asked), EVERY.whole(asked)], [combined, whole])
        self.assertEqual([EVERY.local(asked, node) for node in range(3)], local)

    def test_count(self):
        def answer(numbers):
            return Answer("count", numbers)
        self.check(query("count", ("a", ("x", "y")), head=("x",)), answer({(1,): 2, (2,): 1}), answer({(1,): 1, (2,): 1}),
                   [answer({(1,): 1}), answer({(1,): 1}), answer({(2,): 1})])
        self.check(query("count", ("b", ("x",))), answer({(): 6}), answer({(): 2}), [answer({(): 2})] * 3)
        self.check(query("count", ("c", ("x", "y"))), answer({(): 1}), answer({(): 1}),
                   [answer({(): 1}), answer({}), answer({})])

    def test_distinct(self):
        asked = query("distinct", ("a", ("x", "y")), ("c", ("z", "w")), head=("x",))
        self.check(asked, Answer.of_heads(((1,),)), Answer.of_heads(((1,), (2,))),
                   [Answer.of_heads(((1,),)), Answer.of_heads(()), Answer.of_heads(())])
        self.assertEqual(EVERY.difference(asked), {(2,): (0, 1)})
        self.assertEqual(EVERY.difference(query("distinct", ("b", ("x",)), head=("x",))), {})

    def test_sum(self):
        asked = query("sum", ("a", ("x", "y")), head=("x",), summed="y")
        self.check(asked, Answer("sum", {(1,): 10, (2,): 6}), Answer("sum", {(1,): 5, (2,): 6}),
                   [Answer("sum", {(1,): 5}), Answer("sum", {(1,): 5}), Answer("sum", {(2,): 6})])
        self.assertEqual(EVERY.difference(asked), {(1,): (10, 5)})

    def test_sums_that_even_out(self):
        placement = Placement(FREE, a=(("by", "s", ("x",)),), b=(ALL,), c=(ALL,))
        asked = query("sum", ("a", ("x", "y")), summed="y")
        case = case_with(placement, {"a": ((1, 5), (2, -5))}, 2, {("by", "s", (2,)): 1})
        self.assertEqual([case(asked), case.whole(asked)], [Answer("sum"), Answer("sum")])
        self.assertEqual([case.local(asked, 0).pairs(), case.local(asked, 1).pairs()], [(((), 5),), (((), -5),)])
        self.assertIs(case.is_right(asked), True)
        both = query("sum", ("a", ("x", "y")), ("b", ("z",)), summed="y")
        lone = case_with(placement, {"a": ((1, 5), (2, -5)), "b": ((0,),)}, 2, {})
        self.assertEqual([lone(both), lone.is_right(both)], [Answer("sum"), True])

    def test_absences(self):
        asked = query("distinct", ("a", ("x", "y")), head=("x",), absences=(("c", ("f", "g")),))
        self.assertEqual([EVERY.whole(asked).heads, EVERY(asked).heads], [(), ((1,), (2,))])
        self.assertEqual(EVERY.difference(asked), {(1,): (1, 0), (2,): (1, 0)})
        counted = query("count", ("a", ("x", "y")), absences=(("c", ("f", "g")),))
        self.assertEqual(EVERY.difference(counted), {(): (2, 0)})
        self.assertIs(EVERY.is_right(query("count", ("a", ("x", "y")), absences=(("c", ("x", "y")),))), False)
        idle = Query(SHOP, "count", IDLE)
        self.assertEqual([SPLIT(idle), SPLIT.whole(idle), SPLIT.is_right(idle)], [Answer("count"), Answer("count"), True])

    def test_several_clauses(self):
        one, other = Clause((("a", ("x", "y")),), head=("x",)), Clause((("b", ("x",)),), head=("x",))
        self.assertEqual(EVERY.difference(Query(FREE, "count", one, other)), {(1,): (5, 2), (7,): (3, 1)})

    def test_difference_ascends(self):
        asked = query("count", ("b", ("x",)), head=("x",))
        self.assertEqual(list(EVERY.difference(asked)), [(1,), (7,)])
        EVERY.difference(asked).clear()
        self.assertEqual(EVERY.difference(asked), {(1,): (3, 1), (7,): (3, 1)})

    def test_is_right(self):
        self.assertEqual([SPLIT.is_right(TOWNS), SPLIT.is_right(PRICES), Case.single(NEAR, DAY).is_right(PRICES)],
                         [False, True, True])

    def test_queries_that_are_refused(self):
        for value in (*odd_values(), "count"):
            for call in (EVERY, EVERY.whole, EVERY.difference, EVERY.is_right, lambda asked: EVERY.local(asked, 7)):
                self.assertEqual(told_error(call, value), (InvalidQuery,))

    def test_too_many(self):
        asked = query("count", ("b", ("x",)), ("b", ("y",)))
        rows = {"b": tuple([(at,) for at in range(45)])}
        lone = Placement(FREE, a=(ALL,), b=(ANY,), c=(ALL,))
        apart = case_with(lone, rows, 2, {("any", "b", (44,)): 1})
        whole = case_with(lone, rows, 2, {})
        self.assertEqual(apart(asked)[()], 44 * 44 + 1)
        self.assertEqual([apart.local(asked, 1)[()], whole.local(asked, 1)[()]], [1, 0])
        for call in (apart.whole, apart.difference, apart.is_right, whole, whole.whole, lambda query: whole.local(query, 0)):
            self.assertEqual(told_error(call, asked), (TooMany, 2000))
        self.assertIsNone(raised(apart, asked))


class CounterexampleTest(unittest.TestCase):
    def test_cases(self):
        self.assertIs(is_counterexample(FAR, TOWNS, SPLIT), True)
        self.assertIs(is_counterexample(FAR, PRICES, SPLIT), False)
        self.assertIs(is_counterexample(NEAR, TOWNS, SPLIT), False)
        self.assertIs(is_counterexample(Placement.of(shop_again(), FAR.rules), TOWNS, SPLIT), True)
        self.assertIs(is_counterexample(NEAR, PRICES, Case.single(NEAR, DAY)), False)
        self.assertIs(is_counterexample(NEAR, PRICES, Case.single(NEAR, DAY).with_nodes(2)), True)

    def test_other_values(self):
        for value in (*odd_but(Case), EVERY, (SPLIT,)):
            self.assertIs(is_counterexample(FAR, TOWNS, value), False)

    def test_too_many(self):
        asked = query("count", ("b", ("x",)), ("b", ("y",)))
        for many, told in ((44, True), (45, False)):
            case = case_with(EACH, {"b": tuple([(at,) for at in range(many)])}, 2, {})
            self.assertIs(is_counterexample(EACH, asked, case), told)

    def test_errors(self):
        for value in odd_but(Placement):
            self.assertEqual(told_error(is_counterexample, value, None, None), (InvalidPlacement,))
        for value in odd_but(Query):
            self.assertEqual(told_error(is_counterexample, FAR, value, None), (InvalidQuery,))
        self.assertEqual(told_error(is_counterexample, FAR, query("count", ("a", ("x", "y"))), SPLIT), (InvalidQuery,))


class ExampleTest(unittest.TestCase):
    def test_example(self):
        self.assertEqual(
            [SPLIT.nodes_of("item", (9, 7)), SPLIT.rows_at(0), SPLIT.difference(TOWNS), str(SPLIT)],
            [(1,), {"cus": ((1, 5),), "item": (), "ord": ((1, 9, 3),)}, {(5,): (0, 1)}, "case of 2 nodes, 3 rows"])
        self.assertEqual(
            [is_counterexample(FAR, TOWNS, SPLIT), Case.single(FAR, DAY).is_right(TOWNS),
             Case.single(NEAR, DAY).with_nodes(3)(PRICES).pairs()],
            [True, True, (((7,), 3),)])


if __name__ == "__main__":
    unittest.main()
