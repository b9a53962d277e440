"""[9.1] to [9.6] and the names of stage 9."""

import itertools
import random
import unittest

from dealtrows.ask.queries import Clause, Query
from dealtrows.base.databases import Database
from dealtrows.base.schemas import Schema
from dealtrows.deal.cases import Case, is_counterexample
from dealtrows.deal.placements import Placement
from dealtrows.decide import smallcases
from dealtrows.decide.patterns import patterns
from dealtrows.decide.smallcases import is_small_case, layouts, small_cases, ties
from dealtrows.decide.colocated import stranded
from dealtrows.decide.verdicts import Verdict, certificate_of, counterexample_of, decision, is_certificate, is_decision
from dealtrows.decide.verdicts import is_right_for, right_parts
from dealtrows.errors import InvalidOperation, InvalidPlacement, InvalidQuery, InvalidRow, TooMany
import naive
from samples import DAY, FAR, IDLE, NEAR, PRICES, SHOP, SIXTY_ONE, SPLIT, TOWNS, case_with, odd_but, odd_values
from samples import shop_again, told_error
from test_patterns import WIDE

ALL, FIRST, ANY = ("all",), ("first",), ("any",)
# Rows of p are asked for; those of q, which has a key, and of r block them.
BANS = Schema({"p": ("k", "x"), "q": ("k", "n", "x"), "r": ("k", "x")}, keys={"p": (("k",),), "q": (("n",),)},
              references={"qp": ("q", ("k",), "p", ("k",))})


def bans(q=(ANY,), r=(ANY,), p=(("by", "s", ("k",)),)):
    return Placement(BANS, p=p, q=q, r=r)


def asked(form, *absences, parts=(("p", ("k", "x")),), schema=BANS, **more):
    return Query(schema, form, Clause(parts, absences=absences, **more))


def keys(placement, query):
    return [naive.key_of(case) for case in small_cases(placement, query)]


def many(placement, query):
    return len(keys(placement, query))


def blocked(placement, query, table):
    """The rows of a table in small cases, with the nodes where they lie, and the numbers of nodes."""
    return {(case.nodes, tuple((row, case.nodes_of(table, row)) for row in case.database[table]))
            for case in small_cases(placement, query)}


class TiesTest(unittest.TestCase):
    def test_ties_of_all_open_matches(self):
        query = asked("count", ("q", ("k", "n", "m")), ("r", ("f", "x")))
        rows = {"p": ((2, 5), (1, 5)), "r": ((0, 5),)}
        self.assertEqual(ties(bans(), query, rows),
                         (("q", (("k", 1),)), ("q", (("k", 2),)), ("r", (("x", 5),))))

    def test_equal_ties_are_one(self):
        one = Clause((("p", ("k", "x")),), absences=(("r", ("k", "x")), ("r", ("k", "x"))))
        other = Clause((("p", ("x", "k")),), absences=(("r", ("x", "k")),))
        query = Query(BANS, "count", one, other)
        self.assertEqual(ties(bans(), query, {"p": ((1, 5),)}), (("r", (("k", 1), ("x", 5))),))

    def test_integers_and_tied_columns(self):
        query = asked("count", ("r", (3, "f")), ("r", (4, "x")))
        self.assertEqual(ties(bans(), query, {"p": ((1, 5), (2, 6))}),
                         (("r", (("k", 3),)), ("r", (("k", 4), ("x", 5))), ("r", (("k", 4), ("x", 6)))))
        self.assertEqual(ties(bans(), asked("count", ("r", ("f", "g"))), {"p": ((1, 5),)}), (("r", ()),))
        self.assertEqual(ties(bans(), asked("count", ("r", ("f", "g"))), {}), ())
        self.assertEqual(ties(FAR, TOWNS, DAY.rows), ())

    def test_tests_count_and_rows_need_not_be_a_database(self):
        query = asked("count", ("q", ("k", "n", "x")), tests=(("x", "!=", 5),))
        self.assertEqual(ties(bans(), query, {"p": ((1, 5), (1, 6)), "q": ((8, 1, 1),)}), (("q", (("k", 1), ("x", 6))),))

    def test_errors(self):
        query = asked("count", ("r", ("k", "f")))
        two = bans(r=(ANY, FIRST))
        for value in odd_but(Placement):
            self.assertEqual(told_error(ties, value, None, None), (InvalidPlacement,))
        for value in odd_but(Query):
            self.assertEqual(told_error(ties, bans(), value, None), (InvalidQuery,))
        self.assertEqual(told_error(ties, bans(), TOWNS, None), (InvalidOperation,))
        self.assertEqual(told_error(ties, two, query, None), (InvalidOperation,))
        for rows in (None, DAY.rows, {"p": ((1,),)}, {"p": [(1, 2)]}, {"p": ((1, True),)}, {"z": ()}, {"p": ((1, 2), (1, 2))},
                     {"p": tuple([(at, 0) for at in range(101)])}, *odd_values()[20:]):
            if rows != {}:
                self.assertEqual(told_error(ties, bans(), query, rows), (InvalidRow,), rows)

    def test_too_many(self):
        parts = (("p", ("k", "x")), ("p", ("l", "y")))
        query = asked("count", ("r", ("k", "f")), parts=parts)
        self.assertEqual(len(ties(bans(), query, {"p": tuple([(at, 0) for at in range(44)])})), 44)
        rows = {"p": tuple([(at, 0) for at in range(45)])}
        self.assertEqual(told_error(ties, bans(), query, rows), (TooMany, 2000))
        # A clause without absences has the same limit.
        other = Query(BANS, "count", Clause((("p", ("k", "x")),), absences=(("r", ("k", "f")),)), Clause(parts))
        self.assertEqual(told_error(ties, bans(), other, rows), (TooMany, 2000))


class LayoutsTest(unittest.TestCase):
    PLACES = (("any", "a", (1,)), ("any", "b", (1, 2)), ("by", "s", (1,)), ("by", "s", (2,)), ("by", "t", (1,)),
              ("by", "t", (1, 2)), FIRST)

    def test_constants(self):
        self.assertEqual([smallcases.MAX_PLACES, smallcases.MAX_CASES], [6, 2000])

    def test_numbers(self):
        self.assertEqual([len(list(layouts(self.PLACES[:many]))) for many in range(7)], [1, 1, 2, 5, 15, 52, 203])
        self.assertEqual(list(layouts(())), [{}])

    def test_each_once_and_numbered(self):
        for places in (self.PLACES[:3], self.PLACES[3:], self.PLACES[5:], (FIRST,), self.PLACES[1:6]):
            found = [tuple(layout.items()) for layout in layouts(places)]
            told = [tuple(layout.items()) for layout in naive.layouts_of(places)]
            self.assertEqual(sorted(found), sorted(told))
            self.assertEqual(len(found), len(set(found)))
            self.assertTrue(all([place for place, _ in layout] == list(places) for layout in found))

    def test_first_is_node_0(self):
        found = list(layouts((("any", "a", (1,)), ("by", "s", (1,)), FIRST)))
        told = [{("any", "a", (1,)): one, ("by", "s", (1,)): other, FIRST: 0}
                for one, other in ((0, 0), (0, 1), (1, 0), (1, 1), (1, 2))]
        for layout in told:
            self.assertEqual(found.count(layout), 1)
        self.assertEqual(len(found), 5)

    def test_what_is_refused(self):
        a, b = ("by", "s", (1,)), ("by", "s", (2,))
        wrong = (None, [a], {a: 0}, (b, a), (a, a), (ALL,), (a, b, ALL), ("first",), (FIRST, a), (("first", 1),), (("by", "s"),),
                 (("by", "s", ()),), (("by", "S", (1,)),), (("by", "s", (True,)),), (("by", "s", [1]),), (("by", "s", 1),),
                 (("by", "s", (1, 2, 3, 4, 5)),), (("by", 1, (1,)),), (("with", "oc", (1,)),), (("any", "a", ("x",)),),
                 (("any", "a"),), (("any", "a", ()),), (("any",),), (("by", "s", (SIXTY_ONE,)),), (("by", "s", (1,), 0),),
                 ("by", "s", (1,)), (["by", "s", (1,)],), (a, None), (None,), (("first",), ("first",)))
        for places in (*wrong, *[value for value in odd_values() if value != ()]):
            self.assertEqual(told_error(lambda told: list(layouts(told)), places), (InvalidOperation,), places)

    def test_too_many(self):
        self.assertEqual(told_error(lambda told: list(layouts(told)), self.PLACES), (TooMany, 6))
        self.assertEqual(told_error(lambda told: list(layouts(told)), self.PLACES[:6] + (ALL,)), (InvalidOperation,))
        self.assertEqual(len(list(layouts(self.PLACES[1:]))), 203)
        generator = layouts(None)
        with self.assertRaises(InvalidOperation):
            next(generator)


class PlacesTest(unittest.TestCase):
    """What is given, what is open, and what the places of a pattern are, told by numbers of small cases."""

    def test_given_places(self):
        # A tie of columns k: one row or none; the pattern has one place, and one or two nodes.
        query = asked("count", ("r", ("k", "f")), parts=(("p", ("k", "k")),))
        self.assertEqual(many(bans(r=(ALL,)), query), 2 * 2)
        self.assertEqual(many(bans(r=(("by", "s", ("k",)),)), query), 2 * 2)
        # The place of the tie is another one: it can be the node of the row, or not.
        self.assertEqual(many(bans(r=(FIRST,)), query), 2 * 2 * 2)
        # Without a row there, two nodes with the same place and with two places are the same case.
        self.assertEqual(many(bans(r=(("by", "t", ("k",)),)), query), 2 * 2 * 2 - 1)
        kept = asked("count", ("q", ("k", "m", "f")), parts=(("p", ("k", "k")),))
        self.assertEqual(many(bans(q=(("with", "qp"),)), kept), 2 * 2)

    def test_open_places(self):
        query = asked("count", ("r", ("k", "f")), parts=(("p", ("k", "k")),))
        distinct = asked("distinct", ("r", ("k", "f")), parts=(("p", ("k", "k")),))
        # No node, one node, and two nodes or all nodes; of one node, or two.
        for rule in (ANY, ("by", "s", ("x",)), ("by", "z", ("x", "k"))):
            self.assertEqual([many(bans(r=(rule,)), query), many(bans(r=(rule,)), distinct)], [2 + 4, 2 + 4])
        lone = bans(r=(ANY,), p=(("by", "s", ("k",)), FIRST))
        self.assertEqual([many(lone, query), many(lone, distinct)], [(2 + 4) + (4 + 7), (2 + 4) + (4 + 5)])

    def test_at_most_one_row(self):
        whole = asked("count", ("r", ("k", "k")), parts=(("p", ("k", "k")),))
        self.assertEqual(many(bans(r=(ANY,)), whole), 2 + 3)
        keyed = asked("count", ("q", ("k", "k", "f")), parts=(("p", ("k", "k")),))
        self.assertEqual(many(bans(), keyed), 2 + 3)
        self.assertEqual(many(bans(), asked("distinct", ("q", ("k", "k", "f")), parts=(("p", ("k", "k")),))), 2 + 3)
        loose = asked("count", ("q", ("k", "f", "k")), parts=(("p", ("k", "k")),))
        self.assertEqual(many(bans(), loose), 2 + 4)

    def test_no_column_is_tied(self):
        self.assertEqual(many(bans(), asked("count", ("r", ("f", "g")), parts=(("p", ("k", "k")),))), 2 + 4)
        self.assertEqual(many(bans(r=(ALL,)), asked("count", ("r", ("f", "g")), parts=(("p", ("k", "k")),))), 2 * 2)

    def test_parents_in_no_part(self):
        # Orders are counted; their customers and items have places of their own, on node 0.
        query = Query(SHOP, "count", Clause((("ord", (1, 1, "n")),)))
        placement = Placement(SHOP, cus=(("by", "s", ("town",)),), item=(ANY,), ord=(("by", "t", ("no",)),))
        found = list(small_cases(placement, query))
        self.assertEqual(len(found), 15 * 2)
        for case in found:
            self.assertEqual([case.nodes_of("cus", row) for row in case.database["cus"]], [(0,)])
            self.assertEqual([case.nodes_of("item", row) for row in case.database["item"]], [(0,)])
            self.assertLessEqual(case.nodes, 2)
        # A parent that is dealt by the spread of a part has the node of the part, if it has its integers.
        shared = placement.with_rules("cus", ("by", "t", ("code",)))
        told = {case.nodes_of("cus", (1, case.database["cus"][0][1])) for case in small_cases(shared, query)}
        self.assertEqual(told, {(0,)})
        # With the parent among the parts of another clause, it has a place of the pattern, before the one of the order.
        both = Query(SHOP, "count", *query, Clause((("item", ("i", "p")),)))
        for asked_query, told in ((query, {(0,)}), (both, {(0,), (1,)})):
            self.assertEqual({case.nodes_of("ord", row) for case in small_cases(placement, asked_query)
                              for row in case.database["ord"]}, told)

    def test_one_node_more(self):
        found = {(case.nodes, len(set(case.places.values()))) for case in small_cases(FAR, PRICES)}
        self.assertEqual(found, {(1, 1), (2, 1)})
        self.assertEqual({case.nodes for case in small_cases(NEAR, PRICES)}, {1, 2})

    def test_distinct_without_absences(self):
        found = list(small_cases(FAR, TOWNS))
        self.assertEqual(len(found), 52)
        for case in found:
            self.assertEqual(case.nodes, max(1, len(case.places)))
            self.assertEqual(list(case.places.values()), list(range(len(case.places))))
        first = FAR.with_rules("cus", FIRST)
        self.assertEqual({case.places[FIRST] for case in small_cases(first, TOWNS)}, {0})
        with_absence = asked("distinct", ("r", ("k", "x")))
        self.assertEqual({case.nodes for case in small_cases(bans(), with_absence)}, {1, 2})


class BlockingRowsTest(unittest.TestCase):
    def test_integers_by_ties_nodes_and_columns(self):
        query = asked("count", ("r", (3, "f")), ("q", ("k", "n", "m")), parts=(("p", ("k", "k")),), tests=(("k", "!=", 3),))
        found = {case.database["q"] + case.database["r"] for case in small_cases(bans(), query) if len(case.database) == 5}
        low = 4 * 10 ** 5
        self.assertEqual(found, {((low, -7, -8), (low, -5, -6), (3, -10), (3, -9))})
        for case in small_cases(bans(), query):
            if len(case.database) == 5:
                self.assertEqual([case.nodes_of("q", (low, -5, -6)), case.nodes_of("q", (low, -7, -8))], [(0,), (1,)])
                self.assertEqual([case.nodes_of("r", (3, -9)), case.nodes_of("r", (3, -10))], [(0,), (1,)])
        lone = {case.database["r"] for case in small_cases(bans(), query) if not case.database["q"]}
        self.assertEqual(lone, {(), ((3, -5),), ((3, -6), (3, -5))})

    def test_sets_of_nodes(self):
        query = asked("count", ("r", ("k", "f")), parts=(("p", ("k", "k")),))
        low = 10 ** 5
        one, two = (low, -2), (low, -3)
        told = {(1, ()), (1, ((one, (0,)),)), (2, ()), (2, ((one, (0,)),)), (2, ((one, (1,)),)), (2, ((two, (1,)), (one, (0,))))}
        self.assertEqual(blocked(bans(), query, "r"), told)
        everywhere = {(1, ()), (1, ((one, (0,)),)), (2, ()), (2, ((one, (0, 1)),))}
        self.assertEqual(blocked(bans(r=(ALL,)), query, "r"), everywhere)

    def test_sums_and_counts_have_pairs_and_distinct_has_all(self):
        parts = (("p", ("k", "x")), ("p", ("l", "y")))
        tests = (("k", "=", "x"), ("l", "=", "y"), ("k", "!=", "l"))
        for form, told in (("count", {0, 1, 2}), ("sum", {0, 1, 2}), ("distinct", {0, 1, 3})):
            more = {"summed": "k"} if form == "sum" else {}
            query = asked(form, ("r", ("f", "g")), parts=parts, tests=tests, **more)
            self.assertEqual({len(case.database["r"]) for case in small_cases(bans(), query) if case.nodes == 3}, told, form)

    def test_summed_integers_count(self):
        query = asked("sum", ("r", ("k", "f")), parts=(("p", ("k", "k")),), summed=-8)
        rows = {row for case in small_cases(bans(), query) for row in case.database["r"]}
        self.assertEqual(rows, {(9 * 10 ** 5, -10), (9 * 10 ** 5, -11)})

    def test_rows_that_break_a_key(self):
        # Ties by k and n, n being a key: two of them with one n cannot have a row each.
        query = asked("count", ("q", ("k", 4, "f")), parts=(("p", ("k", "k")), ("p", ("l", "l"))), tests=(("k", "!=", "l"),))
        self.assertTrue(any(len(tied) == 2 for tied in [ties(bans(), query, pattern.database.rows) for pattern in patterns(query)]))
        self.assertEqual({len(case.database["q"]) for case in small_cases(bans(), query)}, {0, 1})
        self.assertEqual(sorted(keys(bans(), query)), sorted(naive.small_case_keys(bans(), query)))

    def test_parents_of_blocking_rows_are_there(self):
        query = asked("count", ("q", ("k", "n", "f")))
        for case in small_cases(bans(q=(("with", "qp"),)), query):
            for row in case.database["q"]:
                self.assertEqual(case.nodes_of("q", row), case.nodes_of("p", case.database.parent_of("qp", row)))


class SmallCasesTest(unittest.TestCase):
    def pairs(self):
        """Placements and queries of all kinds."""
        yield NEAR, TOWNS
        yield FAR, TOWNS
        yield NEAR, PRICES
        yield FAR, Query(SHOP, "count", IDLE)
        yield FAR, Query(SHOP, "distinct", IDLE)
        yield NEAR.with_rules("ord", ANY), Query(SHOP, "count", IDLE)
        yield FAR.with_rules("cus", ("by", "s", ("town",)), FIRST), TOWNS
        for form in ("count", "distinct"):
            yield bans(), asked(form, ("q", ("k", "n", "x")), ("r", ("x", "f")))
            yield bans(r=(("by", "s", ("k",)),), q=(FIRST,)), asked(form, ("q", ("k", 5, "x")), ("r", ("x", "f")))
            yield bans(r=(("by", "t", ("x",)),), q=(("with", "qp"),), p=(("by", "s", ("x",)), FIRST)), asked(
                form, ("q", ("k", "n", "m")), ("r", ("x", "f")))
            yield bans(p=(ALL,)), Query(BANS, form, Clause((("p", ("k", "x")),), absences=(("r", ("x", "f")),)),
                                        Clause((("p", ("k", "x")),)), Clause((("p", ("a", "b")),)))
        yield bans(q=(ALL,)), asked("sum", ("q", ("k", "n", "x")), summed="x")
        # The place of a parent in no part is the one that a tie is given.
        parents = Schema({"p": ("b", "d"), "q": ("a", "b"), "t": ("a", "b")}, keys={"p": (("b", "d"),)},
                         references={"tp": ("t", ("a", "b"), "p", ("b", "d"))})
        for rules in ((("by", "s", ("b",)),), (FIRST,), (("by", "u", ("a",)),)):
            placement = Placement(parents, p=(("by", "s", ("d",)),), q=rules, t=(ANY,))
            for form in ("count", "distinct"):
                yield placement, asked(form, ("q", ("f", "e")), parts=(("t", (1, "e")),), schema=parents, head=("e",))

    def test_by_the_words_of_the_document(self):
        for placement, query in self.pairs():
            found = keys(placement, query)
            self.assertEqual(len(found), len(set(found)))
            self.assertEqual(set(found), naive.small_case_keys(placement, query), (placement.rules, query.form))

    def test_each_comes_once(self):
        clause = Clause((("item", ("i", "p")),))
        self.assertEqual(many(FAR, Query(SHOP, "count", clause, clause, clause)), 4)
        self.assertEqual(many(FAR, Query(SHOP, "count", clause, clause.renamed({"i": "p", "p": "i"}))), 4)
        self.assertEqual(many(FAR, Query(SHOP, "count", clause.with_tests(("i", "!=", "i")))), 0)

    def test_they_are_cases_of_the_placement(self):
        for placement, query in self.pairs():
            for case in small_cases(placement, query):
                self.assertEqual(case, Case(placement, case.database, nodes=case.nodes, spreads=case.spreads, lone=case.lone))

    def test_equal_schemas_are_enough(self):
        self.assertEqual(many(Placement.of(shop_again(), NEAR.rules), PRICES), 4)

    def test_errors(self):
        two = bans(r=(ANY, FIRST))
        query = asked("count", ("r", ("k", "f")))

        def first(placement, asked_query):
            return next(small_cases(placement, asked_query))
        for call in (first, lambda *told: is_small_case(*told, SPLIT)):
            for value in odd_but(Placement):
                self.assertEqual(told_error(call, value, None), (InvalidPlacement,))
            for value in odd_but(Query):
                self.assertEqual(told_error(call, FAR, value), (InvalidQuery,))
            self.assertEqual(told_error(call, FAR, query), (InvalidOperation,))
            self.assertEqual(told_error(call, two, query), (InvalidOperation,))
        # Two rules do no harm where the table has no absence.
        self.assertEqual(many(two, asked("count")), many(bans(), asked("count")))
        self.assertIsNotNone(next(small_cases(bans(p=(ANY, FIRST)), query)))


class IsSmallCaseTest(unittest.TestCase):
    def test_small_cases(self):
        for placement, query in ((FAR, PRICES), (FAR, TOWNS), (bans(), asked("count", ("r", ("k", "f"))))):
            for case in small_cases(placement, query):
                again = Case.of_places(placement, case.database, case.nodes, case.places)
                self.assertIs(is_small_case(placement, query, case), True)
                self.assertIs(is_small_case(placement, query, again), True)

    def test_cases_near_them(self):
        query = asked("count", ("r", ("k", "f")))
        placement = bans()
        known = set(keys(placement, query))
        for case in small_cases(placement, query):
            near = [case.with_nodes(case.nodes + 1), case.with_nodes(9)]
            near.extend(Case.of_places(placement, case.database, 3, {**case.places, place: 2}) for place in case.places)
            near.extend(naive.all_subcases(case))
            near.append(case_with(placement, {**case.database.rows, "r": ((0, 0),)}, case.nodes, case.places)
                        if not case.database["r"] else case)
            for other in near:
                self.assertIs(is_small_case(placement, query, other), naive.key_of(other) in known)

    def test_other_placements_and_values(self):
        case = next(small_cases(FAR, PRICES))
        self.assertIs(is_small_case(NEAR.with_rules("item", ANY), PRICES, case), False)
        # Here the places are the same, too.
        self.assertIs(is_small_case(FAR.with_rules("cus", ANY), PRICES, case), False)
        for value in (*odd_but(Case), SPLIT, DAY, case.database, (case,), naive.key_of(case), Case.single(bans(), Database(BANS))):
            self.assertIs(is_small_case(FAR, PRICES, value), False)
        empty = Case.single(FAR, Database(SHOP))
        self.assertIs(is_small_case(FAR, PRICES, empty), False)


class LimitTest(unittest.TestCase):
    def errors(self, placement, query):
        told = {told_error(lambda: list(small_cases(placement, query))),
                told_error(lambda: is_small_case(placement, query, SPLIT))}
        self.assertEqual(len(told), 1)
        return told.pop()

    FREE = Schema({"a": ("k", "l", "m"), "b": ("k", "l", "m"), "c": ("k",), "d": ("k",)})

    def free(self, a, b=(ALL,), c=(ALL,), d=(ALL,)):
        return Placement(self.FREE, a=a, b=b, c=c, d=d)

    def test_patterns(self):
        wide = Query(WIDE, "distinct", Clause((("t", ("x", "y", "z")), ("t", ("u", "v", "w")), ("u", ("s",)))))
        long = Query(WIDE, "distinct", Clause((("t", ("x", "y", "z")), ("t", ("u", "v", "w")), ("t", ("p", "q", "r")))))
        placement = Placement(WIDE, t=(ALL,), u=(ALL,))
        self.assertEqual(self.errors(placement, wide), (TooMany, 8))
        self.assertEqual(self.errors(placement, long), (TooMany, 7))
        self.assertEqual(self.errors(placement, wide + long), (TooMany, 8))

    def test_places(self):
        query = Query(self.FREE, "distinct", Clause((("a", ("x", "y", "z")), ("a", ("u", "v", "w")))))
        two = (("by", "s", ("k",)), ("by", "t", ("l",)))
        three = Query(self.FREE, "distinct", Clause((("a", ("x", "y", "z")), ("a", ("u", "v", "z")), ("a", ("z", "w", "z")))))
        self.assertEqual(self.errors(self.free(two), query), None)
        self.assertEqual(max(len(case.places) for case in small_cases(self.free(two), query)), 4)
        self.assertEqual(max(len(case.places) for case in small_cases(self.free(two), three)), 6)
        four = Query(self.FREE, "distinct", Clause((("a", ("x", "y", "z")), ("a", ("u", "v", "z")), ("b", ("z", "w", "z")))))
        more = self.free(two, b=(("by", "q", ("k",)), ("by", "z", ("l",))))
        self.assertEqual(max(len(case.places) for case in small_cases(more, four)), 6)

    def test_seven_places(self):
        schema = Schema({"a": ("k", "l"), "b": ("k",)}, keys={"b": (("k",),)},
                        references={"rk": ("a", ("k",), "b", ("k",)), "rl": ("a", ("l",), "b", ("k",))})
        query = Query(schema, "distinct", Clause((("a", ("x", "y")), ("a", ("z", "w")), ("a", ("u", "v")))))
        both = (("with", "rk"), ("with", "rl"))
        six = Placement(schema, a=both, b=(("by", "s", ("k",)),))
        self.assertEqual(self.errors(six, query), (TooMany, 8))
        two = Query(schema, "distinct", Clause((("a", ("x", "y")), ("a", ("z", "w")))))
        wide = Placement(schema, a=both, b=(("by", "s", ("k",)), ("by", "t", ("k",))))
        self.assertEqual(self.errors(wide, two), (TooMany, 6))
        self.assertEqual(self.errors(six, two), None)
        first = Placement(schema, a=both, b=(("by", "s", ("k",)), FIRST))
        self.assertEqual(max(len(case.places) for case in small_cases(first, two)), 5)

    def test_places_come_before_choices(self):
        schema = Schema({"a": ("k", "l"), "b": ("k",), "c": ("k",)}, keys={"b": (("k",),)},
                        references={"rk": ("a", ("k",), "b", ("k",)), "rl": ("a", ("l",), "b", ("k",))})
        placement = Placement(schema, a=(("with", "rk"), ("with", "rl")), b=(("by", "s", ("k",)), ("by", "t", ("k",))), c=(ANY,))
        many_choices = Clause((("b", ("x",)), ("b", ("y",)), ("b", ("z",))), absences=(("c", ("x",)), ("c", ("y",))))
        self.assertEqual(self.errors(placement, Query(schema, "count", many_choices)), (TooMany, 2000))
        many_places = Clause((("a", ("x", "y")), ("a", ("z", "w"))))
        self.assertEqual(self.errors(placement, Query(schema, "count", many_choices, many_places)), (TooMany, 6))
        too_long = Clause((("a", ("x", "y")), ("a", ("z", "w")), ("a", ("u", "v"))), tests=((8, "!=", 9),))
        self.assertEqual(self.errors(placement, Query(schema, "count", many_places, too_long)), (TooMany, 7))

    def test_many_choices(self):
        # Rows of given ties double the choices.
        schema = Schema({"a": ("k",), "b": ("k", "l", "m")})
        placement = Placement(schema, a=(ALL,), b=(ALL,))
        seen = set()
        for terms in (("x", 1, 1), ("x", "y", 1), ("x", "y", "f"), ("x", "f", "y"), ("x", "y", "z"), ("f", "g", 1)):
            for parts in (("x", "y", "z"), ("x", "y", "y")):
                clause = Clause(tuple([("a", (name,)) for name in parts]),
                                absences=(("b", tuple([term if term != "z" or "z" in parts else "y" for term in terms])),))
                query = Query(schema, "count", clause)
                few = choices_up_to(placement, query, 2001) <= 2000
                self.assertEqual(self.errors(placement, query), None if few else (TooMany, 2000), terms)
                seen.add(few)
        self.assertEqual(seen, {True, False})

    def test_exactly_at_the_limit(self):
        schema = Schema({"a": ("k", "l"), "b": ("k",), "c": ("k", "l")})
        placement = Placement(schema, a=(("by", "s", ("k",)),), b=(ALL,), c=(ANY,))
        most = Query(schema, "count", Clause((("a", ("z", "w")), ("a", ("u", "y")), ("b", ("v",)))), Clause((("a", ("y", "w")),)),
                     Clause((("a", ("w", "v")), ("a", ("y", "z"))), absences=(("c", ("y", "z")),)))
        more = Query(schema, "count", Clause((("b", (1,)),), tests=((2, "!=", 2),)), Clause((("a", ("u", "u")), ("a", ("u", 1)))),
                     Clause((("a", ("x", 2)), ("a", ("w", "u"))), absences=(("c", ("f", "u")),)))
        self.assertEqual([choices_up_to(placement, query, 2100) for query in (most, more)], [2000, 2001])
        self.assertIsNone(self.errors(placement, most))
        self.assertEqual(self.errors(placement, more), (TooMany, 2000))

        most = Query(schema, "distinct", Clause((("a", ("x", "w")), ("a", ("w", "v"))), absences=(("c", ("f", "w")),)),
                     Clause((("a", ("z", "w")), ("a", ("v", "u"))), tests=(("w", "!=", "u"), ("v", "!=", "w")),
                            absences=(("c", ("u", "f")),)),
                     Clause((("a", ("x", "w")),), tests=(("x", "!=", "x"),), absences=(("c", ("x", "w")),)))
        more = Query(schema, "distinct", Clause((("b", ("x",)),), absences=(("c", ("f", "x")),)),
                     Clause((("a", ("x", "y")), ("a", ("u", "x")), ("b", ("x",))), absences=(("c", ("x", "y")),)),
                     Clause((("b", ("y",)), ("a", ("y", 2)), ("a", ("v", 1)))))
        self.assertEqual([choices_up_to(placement, query, 2100) for query in (most, more)], [2000, 2001])
        self.assertIsNone(self.errors(placement, most))
        self.assertEqual(self.errors(placement, more), (TooMany, 2000))

    def test_exactly_at_the_limit_without_absences(self):
        schema = Schema({"a": ("k", "l", "m", "n")}, keys={"a": (("k", "l", "m"),)})
        one = Clause((("a", ("u", "s", "v", "z")), ("a", ("w", "y", "v", "x"))), tests=(("u", "!=", "s"), ("u", "!=", "y")))
        two = Clause((("a", ("u", "x", "z", "y")), ("a", ("s", "w", "z", "v"))), tests=(("y", "!=", "v"), ("v", "!=", "y")))
        three = Clause((("a", ("w", "v", "s", "s")), ("a", ("u", "x", "y", "z"))))
        other = Clause((("a", ("y", "z", "w", "v")), ("a", ("x", "s", "u", "w"))), tests=(("v", "!=", "y"),))
        most, more = Query(schema, "distinct", one, two, three), Query(schema, "distinct", other, other, other)
        for rules in ((ALL,), (FIRST,), (("by", "s", ("k",)),), (("by", "s", ("k",)), ("by", "t", ("l",)))):
            placement = Placement(schema, a=rules)
            self.assertEqual([choices_up_to(placement, query, 2100) for query in (most, more)], [2000, 2001])
            self.assertIsNone(told_error(is_small_case, placement, most, None))
            for call in (is_small_case, is_decision, is_certificate):
                self.assertEqual(told_error(call, placement, more, None), (TooMany, 2000))
            for call in (is_right_for, right_parts, counterexample_of, certificate_of, decision, Verdict):
                self.assertEqual(told_error(call, placement, more), (TooMany, 2000))
            self.assertEqual(told_error(stranded, placement, more, ()), (TooMany, 2000))
            self.assertIsNone(told_error(stranded, placement, most, ()))
            self.assertIsNone(told_error(is_right_for, placement, most))
        self.assertIs(is_right_for(Placement(schema, a=(ALL,)), most), True)

    def test_counts_without_absences(self):
        # Layouts of six places, each with two numbers of nodes, are soon too many.
        schema = Schema({"t": ("a", "b")})
        placement = Placement(schema, t=(("by", "s", ("a",)), ("by", "w", ("b",))))
        query = Query(schema, "count", Clause((("t", ("a", "b")), ("t", ("c", "d")), ("t", ("e", "f")))))
        self.assertEqual(self.errors(placement, query), (TooMany, 2000))
        # Seven places of a pattern, behind many others, come first.
        wide = Schema({"t": ("a", "b"), "u": ("a",)}, keys={"u": (("a",),)}, references={"tu": ("t", ("b",), "u", ("a",))})
        seven = Placement(wide, t=(("by", "s", ("a",)), ("with", "tu")), u=(("by", "w", ("a",)), ("by", "x", ("a",))))
        asked_query = Query(wide, "count", Clause((("t", ("a", "b")), ("t", ("c", "d")), ("t", ("e", "f")))))
        self.assertEqual(self.errors(seven, asked_query), (TooMany, 6))

    def test_distinct_without_absences(self):
        # Each pattern is one choice: two clauses with 877 patterns are not too many, three are.
        schema = Schema({"a": ("k", "l", "m", "n")})
        clause = Clause((("a", ("x", "y", "z", "u")), ("a", ("v", "w", "s", "s"))))
        placement = Placement(schema, a=(("by", "s", ("k",)),))
        self.assertIsNone(self.errors(placement, Query(schema, "distinct", clause, clause)))
        self.assertEqual(self.errors(placement, Query(schema, "distinct", clause, clause, clause)), (TooMany, 2000))

    def test_ties_with_one_row_at_most(self):
        # Three ties of a key and three of whole rows have a row or none: with pairs of rows it would be too many.
        query = asked("count", ("q", ("k", "k", "f")), ("r", ("k", "k")), parts=(("p", ("k", "k")), ("p", ("l", "l")), ("p", ("m", "m"))))
        placement = bans(p=(FIRST,))
        self.assertEqual(choices_up_to(placement, query, 2001), 2 ** 6 + 3 ** 6 + 3 * (2 ** 4 + 3 ** 4) + 2 ** 2 + 3 ** 2)
        self.assertIsNone(self.errors(placement, query))

    def test_choices_that_break_keys_count(self):
        # Each tie has a row or none, but as all of them would have the key 1, one at most has a row.
        schema = Schema({"a": ("k",), "b": ("k", "l", "n")}, keys={"b": (("n",),)})
        placement = Placement(schema, a=(ALL,), b=(ALL,))
        query = Query(schema, "count", Clause((("a", ("x",)), ("a", ("y",))), absences=(("b", ("x", "y", 1)),)))
        # One row or two with one tie or four, and one node or two.
        self.assertEqual(choices_up_to(placement, query, 2001), 2 * (2 * 2 + 3 * 2 ** 4))
        # The patterns in which x, or y, is 1 and the other is not have the same rows.
        self.assertEqual(many(placement, query), 2 * (2 * 2 + 2 * 5))
        more = Query(schema, "count", Clause((*query.clauses[0].parts, ("a", ("z",))), absences=query.clauses[0].absences))
        self.assertEqual(choices_up_to(placement, more, 2001), 2001)
        self.assertEqual(self.errors(placement, more), (TooMany, 2000))


def choices_up_to(placement, query, most):
    """How many choices there are, counted up to this number."""
    return sum(1 for _ in itertools.islice(naive.choices_of(placement, query), most))


class RightTest(unittest.TestCase):
    """[9.6], against a search over small databases."""

    def search(self, placement, query, values, most, nodes):
        return any(not case.is_right(query) for case in naive.all_cases(placement, values, most, nodes))

    SMALL = Schema({"a": ("x",), "b": ("x",), "c": ("x", "y")}, keys={"a": (("x",),)},
                   references={"ca": ("c", ("x",), "a", ("x",))})

    def queries(self):
        a, b, c = ("a", ("x",)), ("b", ("x",)), ("c", ("x", "y"))
        for form in ("distinct", "count"):
            for parts, absences, head in (
                    ((a,), (), ("x",)), ((a, b), (), ("x",)), ((b, ("b", ("y",))), (), ()), ((a,), (b,), ("x",)), ((a,), (c,), ()),
                    ((b, a), (("c", ("x", "f")),), ("x",)), ((c,), (b,), ("y",)), ((c,), (("b", ("f",)),), ())):
                yield Query(self.SMALL, form, Clause(parts, absences=absences, head=head))

    def test_queries(self):
        source = random.Random(11)
        told = {True: 0, False: 0}
        options = {"a": (ALL, FIRST, ANY, ("by", "s", ("x",))), "b": (ALL, FIRST, ANY, ("by", "s", ("x",)), ("by", "t", ("x",))),
                   "c": (ALL, ANY, ("by", "s", ("x",)), ("by", "t", ("y",)), ("with", "ca"))}
        for query in self.queries():
            for _ in range(6):
                placement = Placement(self.SMALL, **{table: (source.choice(options[table]),) for table in options})
                right = is_right_for(placement, query)
                told[right] += 1
                # Two values and two nodes are enough for the faults of these queries.
                self.assertEqual(self.search(placement, query, (0, 1), 3, 2), not right, (placement.rules, str(query)))
        self.assertTrue(min(told.values()) > 15, told)

    def test_three_values_and_three_nodes(self):
        source = random.Random(12)
        for query in self.queries():
            placement = Placement(self.SMALL, **{
                table: (source.choice((ALL, FIRST, ANY, ("by", "s", ("x",)))),) for table in self.SMALL.tables})
            if is_right_for(placement, query):
                self.assertFalse(self.search(placement, query, (0, 1, 2), 2, 3), (placement.rules, query.form))
        for one, other in (("b", "b"), ("a", "b")):
            placement = Placement(self.SMALL, a=(FIRST,), b=(ANY,), c=(ANY,))
            for form in ("count", "distinct"):
                query = Query(self.SMALL, form, Clause(((one, ("x",)), (other, ("y",))), head=("x", "y")))
                self.assertIs(is_right_for(placement, query), False)
                self.assertTrue(self.search(placement, query, (0, 1, 2), 2, 3))

    def test_right_queries_have_no_counterexamples(self):
        placement = bans(q=(("with", "qp"),), r=(("by", "s", ("k",)),))
        for form in ("distinct", "count"):
            query = asked(form, ("q", ("k", "n", "m")), ("r", ("k", "x")), head=("x",))
            self.assertIs(is_right_for(placement, query), True)
            self.assertFalse(self.search(placement, query, (0, 1), 3, 2))

    def test_wrong_queries_have_small_counterexamples(self):
        for placement, query in ((FAR, TOWNS), (NEAR, PRICES), (bans(), asked("count", ("r", ("k", "f"))))):
            self.assertTrue([case for case in small_cases(placement, query) if is_counterexample(placement, query, case)])


class ExampleTest(unittest.TestCase):
    def test_example(self):
        self.assertEqual([len(list(small_cases(NEAR, TOWNS))), len(list(small_cases(NEAR, PRICES)))], [52, 4])


if __name__ == "__main__":
    unittest.main()
