"""[0.21], [0.22], [10.1] to [10.3] and the names of stage 10."""

import unittest

from dealtrows.ask.queries import Clause, Query
from dealtrows.base.answers import Answer
from dealtrows.base.schemas import Schema
from dealtrows.deal.cases import Case, is_counterexample
from dealtrows.deal.placements import Placement
from dealtrows.decide.smallcases import is_small_case, small_cases
from dealtrows.decide.verdicts import Verdict, certificate_of, counterexample_of, decision, faults, is_certificate
from dealtrows.decide.verdicts import is_decision, is_right_for, right_parts
from dealtrows.errors import InvalidCase, InvalidOperation, InvalidPlacement, InvalidQuery, TooMany
import naive
from samples import DAY, FAR, IDLE, NEAR, PRICES, SHOP, SPLIT, TOWNS, case_with, odd_but, odd_values, told_error
from test_smallcases import ALL, ANY, BANS, FIRST, asked, bans

IDLERS = Query(SHOP, "count", IDLE)
# Customers, items and orders lie together, so that absent orders are seen where they matter.
TOGETHER = FAR.with_rules("item", ("by", "s", ("code",)))
SIDES = Schema({"a": ("k",), "b": ("k",), "c": ("k",)}, keys={"a": (("k",),), "b": (("k",),)},
               references={"ca": ("c", ("k",), "a", ("k",)), "cb": ("c", ("k",), "b", ("k",))})
TWICE = Placement(SIDES, a=(("by", "s", ("k",)),), b=(("by", "t", ("k",)),), c=(("by", "s", ("k",)), ("by", "t", ("k",))))
C, A, B = ("c", ("k",)), ("a", ("k",)), ("b", ("k",))


def sides(*clauses, form="count"):
    return Query(SIDES, form, *[Clause(parts) for parts in clauses])


def kinds_of_queries():
    """Placements, queries and whether they are right."""
    yield NEAR, TOWNS, True
    yield FAR, TOWNS, False
    yield FAR, PRICES, True
    yield NEAR, PRICES, False
    yield NEAR, Query(SHOP, "distinct", *PRICES), True
    yield NEAR, IDLERS, True
    yield FAR, IDLERS, False
    yield NEAR, Query(SHOP, "distinct", IDLE), True
    yield FAR, Query(SHOP, "distinct", IDLE), False
    yield bans(r=(("by", "s", ("k",)),)), asked("count", ("r", ("k", "x"))), True
    yield bans(r=(("by", "s", ("x",)),)), asked("count", ("r", ("k", "x"))), False
    yield bans(r=(ALL,)), asked("sum", ("r", ("f", "x")), summed="x"), True
    yield bans(r=(ANY,)), asked("sum", ("r", ("f", "x")), summed="x"), False
    yield bans(p=(ALL,)), asked("sum", summed=0), True
    yield bans(p=(FIRST,), r=(FIRST,)), asked("sum", ("r", ("f", "g")), summed=2), True
    yield bans(p=(FIRST,), r=(ANY,)), asked("distinct", ("r", ("f", "g"))), False
    yield TWICE, sides((C,)), False


class RightTest(unittest.TestCase):
    def test_queries(self):
        for placement, query, right in kinds_of_queries():
            with self.subTest(rules=placement.rules, clauses=[clause.parts for clause in query]):
                self.assertIs(is_right_for(placement, query), right)
                self.assertEqual(certificate_of(placement, query) is not None, right)
                self.assertEqual(counterexample_of(placement, query) is None, right)
                self.assertEqual(decision(placement, query)[0], "right" if right else "wrong")
                self.assertIs(bool(Verdict(placement, query)), right)

    def test_results_are_judged_right(self):
        for placement, query, right in kinds_of_queries():
            found = decision(placement, query)
            self.assertIs(is_decision(placement, query, found), True)
            if right:
                self.assertIs(is_certificate(placement, query, certificate_of(placement, query)), True)
                self.assertIs(is_certificate(placement, query, found[1]), True)
            else:
                self.assertIs(is_counterexample(placement, query, counterexample_of(placement, query)), True)
                self.assertIs(is_counterexample(placement, query, found[1]), True)

    def test_certificates_have_all_small_cases(self):
        for placement, query, right in kinds_of_queries():
            if right:
                found = certificate_of(placement, query)
                self.assertEqual({naive.key_of(case) for case, _ in found}, naive.small_case_keys(placement, query))
                self.assertEqual(len(found), len(list(small_cases(placement, query))))
                for case, answer in found:
                    self.assertEqual([case(query), case.whole(query)], [answer, answer])

    def test_a_query_without_patterns(self):
        clause = Clause((("item", ("i", "p")),), tests=(("i", "!=", "i"),))
        query = Query(SHOP, "count", clause)
        self.assertEqual([certificate_of(NEAR, query), counterexample_of(NEAR, query), decision(NEAR, query)],
                         [(), None, ("right", ())])
        self.assertEqual([is_certificate(NEAR, query, ()), is_decision(NEAR, query, ("right", ())),
                          is_certificate(NEAR, query, None)], [True, True, False])
        verdict = Verdict(NEAR, query)
        self.assertEqual([len(verdict), verdict.certificate, verdict.counterexample, bool(verdict), verdict.kinds],
                         [0, (), None, True, {"changed": 0, "invented": 0, "lost": 0}])

    def test_errors(self):
        two = bans(r=(ANY, FIRST))
        query = asked("count", ("r", ("k", "f")))
        large = Query(BANS, "count", Clause((("p", ("x", "y")), ("p", ("z", "w")), ("p", ("u", "v"))), tests=((8, "!=", 9),)))
        calls = (certificate_of, counterexample_of, decision, is_right_for, right_parts, Verdict,
                 lambda *told: is_certificate(*told, None), lambda *told: is_decision(*told, ("wrong", SPLIT)))
        for call in calls:
            for value in odd_but(Placement):
                self.assertEqual(told_error(call, value, None), (InvalidPlacement,))
            for value in odd_but(Query):
                self.assertEqual(told_error(call, FAR, value), (InvalidQuery,))
            self.assertEqual(told_error(call, FAR, query), (InvalidOperation,))
            self.assertEqual(told_error(call, two, query), (InvalidOperation,))
            self.assertEqual(told_error(call, bans(), large), (TooMany, 7))
            self.assertEqual(told_error(call, two, query + large), (InvalidOperation,))


class CertificateTest(unittest.TestCase):
    def test_other_orders(self):
        found = certificate_of(FAR, PRICES)
        for told in (found[::-1], found[2:] + found[:2]):
            self.assertIs(is_certificate(FAR, PRICES, told), True)
            self.assertIs(is_decision(FAR, PRICES, ("right", told)), True)
        again = tuple([(Case.of_places(FAR, case.database, case.nodes, case.places), Answer("count", dict(answer.pairs())))
                       for case, answer in found])
        self.assertIs(is_certificate(FAR, PRICES, again), True)

    def test_spoiled_certificates(self):
        found = certificate_of(FAR, PRICES)
        (case, answer), rest = found[0], found[1:]
        other = Case.single(FAR, DAY)
        near = FAR.with_rules("cus", ANY)
        wrong = (None, (), found[1:], found + found[:1], rest + rest[:1], list(found), dict(enumerate(found)),
                 ((case, answer, 1), *rest), ([case, answer], *rest), ((answer, case), *rest), (case, *rest), (None, *rest),
                 ((None, answer), *rest), ((SHOP, answer), *rest), ((case, None), *rest), ((case, answer + answer), *rest), ((case, Answer("count")), *rest),
                 ((case, Answer("sum", dict(answer.pairs()))), *rest), ((case, dict(answer.pairs())), *rest),
                 ((case.with_nodes(3), answer), *rest), ((other, other.whole(PRICES)), *rest),
                 found + ((other, other.whole(PRICES)),),
                 tuple([(Case.of_places(near, told.database, told.nodes, told.places), number) for told, number in found]))
        for value in (*wrong, *odd_values()):
            self.assertIs(is_certificate(FAR, PRICES, value), False, value)
            self.assertIs(is_decision(FAR, PRICES, ("right", value)), False)

    def test_wrong_queries_have_none(self):
        told = tuple([(case, case.whole(PRICES)) for case in small_cases(NEAR, PRICES)])
        self.assertIs(is_certificate(NEAR, PRICES, told), False)
        right = tuple([pair for pair in told if pair[0].is_right(PRICES)])
        self.assertIs(is_certificate(NEAR, PRICES, right), False)
        self.assertIs(is_certificate(NEAR, PRICES, ()), False)

    def test_cases_with_too_many_matches(self):
        query = Query(SHOP, "count", Clause((("item", ("i", "p")), ("item", ("j", "q")))))
        large = case_with(FAR, {"item": tuple([(at, 0) for at in range(45)])}, 1, {})
        self.assertIs(is_certificate(FAR, query, ((large, Answer("count")),) * len(list(small_cases(FAR, query)))), False)
        self.assertIs(is_decision(FAR, query, ("wrong", large)), False)


class DecisionTest(unittest.TestCase):
    def test_counterexamples_that_are_not_small(self):
        self.assertIs(is_small_case(FAR, TOWNS, SPLIT), False)
        self.assertIs(is_decision(FAR, TOWNS, ("wrong", SPLIT)), True)
        self.assertIs(is_decision(NEAR, PRICES, ("wrong", Case.single(NEAR, DAY).with_nodes(5))), True)

    def test_other_values(self):
        case = Case.single(FAR, DAY)
        wrong = (("wrong", case), ("right", SPLIT), ("wrong", None), ("wrong",), ("wrong", SPLIT, 1), ["wrong", SPLIT],
                 ("WRONG", SPLIT), (None, SPLIT), (SPLIT, "wrong"), "wrong", ("right", ()), ("right", None), ("wrong", ()),
                 ("wrong", Case.single(NEAR, DAY)), ("wrong", (SPLIT,)))
        for value in (*wrong, *odd_values()):
            self.assertIs(is_decision(FAR, TOWNS, value), False, value)
        self.assertIs(is_decision(NEAR, TOWNS, ("wrong", SPLIT)), False)
        self.assertIs(is_decision(FAR, PRICES, ("wrong", SPLIT)), False)


class PartsTest(unittest.TestCase):
    def test_one_clause(self):
        self.assertEqual([right_parts(NEAR, TOWNS), right_parts(FAR, TOWNS)], [((0,),), ()])

    def test_wrong_alone_and_right_together(self):
        # What the second clause loses, the first one counts twice.
        query = sides((C,), (A, B, C))
        self.assertEqual(right_parts(TWICE, query), ((0, 1),))
        self.assertEqual(right_parts(TWICE, sides((C,), (A, B, C), (A,))), ((0, 1), (0, 1, 2), (2,)))
        self.assertEqual([is_right_for(TWICE, part) for part in (query, query.only(0), query.only(1))], [True, False, False])

    def test_right_alone_and_wrong_together(self):
        self.assertEqual(right_parts(TWICE, sides((A,), (C,))), ((0,),))
        # Rows that lie everywhere are counted too often, once up and once down.
        summed = [Clause((("p", ("k", "x")),), head=("k",), summed=number) for number in (1, -1, 0)]
        self.assertEqual(right_parts(bans(p=(ALL,)), Query(BANS, "sum", *summed)), ((0, 1), (0, 1, 2), (2,)))

    def test_distinct_clauses_help_one_another(self):
        # Towns of customers with an order of price 7 are told, too, by their customers alone.
        plain = Clause((("cus", ("c", "t")),), head=("t",))
        query = Query(SHOP, "distinct", *TOWNS, plain)
        self.assertEqual(right_parts(FAR, query), ((0, 1), (1,)))
        self.assertEqual(right_parts(NEAR, query), ((0,), (0, 1), (1,)))
        third = Query(SHOP, "distinct", plain, *TOWNS, plain)
        self.assertEqual(right_parts(FAR, third), ((0,), (0, 1), (0, 1, 2), (0, 2), (1, 2), (2,)))


class FaultsTest(unittest.TestCase):
    def test_kinds(self):
        self.assertEqual(faults(SPLIT, TOWNS), {(5,): "lost"})
        self.assertEqual(faults(SPLIT, PRICES), {})
        twice = Case.single(NEAR, DAY.with_row("item", (8, 8))).with_nodes(2)
        self.assertEqual(faults(twice, PRICES), {(7,): "changed", (8,): "changed"})
        placement = FAR.with_rules("ord", ("by", "z", ("no",)))
        rows = {"cus": ((1, 5),), "item": ((9, 7),), "ord": ((1, 9, 3),)}
        case = case_with(placement, rows, 2, {("by", "z", (3,)): 1})
        self.assertEqual(faults(case, IDLERS), {(1,): "invented"})
        self.assertEqual(faults(case, Query(SHOP, "distinct", IDLE)), {(1,): "invented"})

    def test_sums(self):
        query = Query(SHOP, "sum", Clause((("item", ("i", "p")),), summed="p"))
        rows = {"item": ((1, 5), (2, -5))}
        case = case_with(FAR.with_rules("item", ("by", "t", ("code",)), ("by", "z", ("price",))), rows, 2, {("by", "z", (5,)): 1})
        self.assertEqual(faults(case, query), {(): "invented"})
        rows = {"item": ((1, 4), (2, -8))}
        case = case_with(FAR.with_rules("item", ("by", "t", ("code",)), ("by", "z", ("price",))), rows, 2, {("by", "z", (4,)): 1})
        self.assertEqual([case.difference(query), faults(case, query)], [{(): (0, -4)}, {(): "lost"}])

    def test_all_kinds_in_ascending_order(self):
        query = Query(BANS, "count", Clause((("p", ("k", "x")),), absences=(("r", ("k", "f")),), head=("x",)),
                      Clause((("p", ("k", "x")), ("p", ("k", "y"))), head=("y",)))
        placement = bans(p=(ANY,))
        rows = {"p": ((1, 5), (2, 6)), "r": ((2, 0),)}
        case = case_with(placement, rows, 2, {("any", "r", (2, 0)): 1})
        self.assertEqual(list(faults(case, query)), [(6,)])
        self.assertEqual(faults(case, query), {(6,): "changed"})

    def test_errors(self):
        for value in odd_but(Case):
            self.assertEqual(told_error(faults, value, None), (InvalidCase,))
        for value in odd_but(Query):
            self.assertEqual(told_error(faults, SPLIT, value), (InvalidQuery,))
        self.assertEqual(told_error(faults, SPLIT, asked("count")), (InvalidOperation,))
        query = Query(SHOP, "count", Clause((("item", ("i", "p")), ("item", ("j", "q")))))
        large = case_with(FAR, {"item": tuple([(at, 0) for at in range(45)])}, 1, {})
        self.assertEqual(told_error(faults, large, query), (TooMany, 2000))


class VerdictTest(unittest.TestCase):
    def test_right(self):
        verdict = Verdict(FAR, PRICES)
        self.assertEqual([verdict.placement, verdict.query, verdict.counterexample, verdict.is_right(), bool(verdict), len(verdict)],
                         [FAR, PRICES, None, True, True, 4])
        self.assertIs(is_certificate(FAR, PRICES, verdict.certificate), True)
        self.assertEqual([verdict.kinds, str(verdict)],
                         [{"changed": 0, "invented": 0, "lost": 0}, "verdict of 4 small cases, 0 of them counterexamples"])

    def test_wrong(self):
        for placement, query, right in kinds_of_queries():
            if not right:
                verdict = Verdict(placement, query)
                wrong = [case for case in small_cases(placement, query) if not case.is_right(query)]
                self.assertEqual([verdict.certificate, verdict.is_right(), bool(verdict)], [None, False, False])
                self.assertIn(verdict.counterexample, wrong)
                self.assertEqual(len(verdict.counterexample), min([len(case) for case in wrong]))
                told = [set(faults(case, query).values()) for case in wrong]
                self.assertEqual(verdict.kinds, {kind: sum(kind in words for words in told)
                                                 for kind in ("changed", "invented", "lost")})
                self.assertEqual(list(verdict.kinds), ["changed", "invented", "lost"])
                self.assertEqual(len(verdict), len(list(small_cases(placement, query))))
                self.assertEqual(str(verdict), f"verdict of {len(verdict)} small cases, {len(wrong)} of them counterexamples")

    def test_the_fewest_rows(self):
        # Heads are invented with two rows, and changed with one.
        verdict = Verdict(bans(p=(ALL,), r=(ANY,)), asked("count", ("r", ("k", "f")), head=("x",)))
        self.assertEqual([len(verdict.counterexample), sorted({len(case) for case in verdict_cases(verdict)})], [1, [1, 2, 3]])
        self.assertEqual([kind for kind, number in verdict.kinds.items() if number], ["changed", "invented"])
        lone = Verdict(bans(r=(ANY,)), asked("count", ("r", ("k", "f")), head=("x",)))
        self.assertEqual([len(lone.counterexample), lone.kinds["changed"]], [2, 0])

    def test_contains(self):
        verdict = Verdict(FAR, PRICES)
        for case in small_cases(FAR, PRICES):
            again = Case.of_places(FAR, case.database, case.nodes, case.places)
            self.assertIs(again in verdict, True)
            self.assertIs(case.with_nodes(7) in verdict, False)
            other = Case.of_places(FAR.with_rules("cus", ANY), case.database, case.nodes, case.places)
            self.assertIs(other in verdict, False)
        for value in (*odd_but(Case), SPLIT, Case.single(FAR, DAY), next(small_cases(NEAR, PRICES)), (SPLIT,)):
            self.assertIs(value in verdict, False)

    def test_equality(self):
        verdict = Verdict(FAR, PRICES)
        self.assertEqual(verdict, Verdict(Placement.of(SHOP, FAR.rules), Query(SHOP, "count", *PRICES)))
        for value in (*odd_values(), Verdict(NEAR, PRICES), Verdict(FAR, TOWNS), verdict.certificate):
            self.assertIs(verdict == value, False)
            self.assertIs(verdict != value, True)

    def test_nothing_is_shared_and_it_is_not_iterated_over(self):
        verdict = Verdict(NEAR, PRICES)
        verdict.kinds.clear()
        self.assertEqual(verdict.kinds, {"changed": 2, "invented": 0, "lost": 0})
        with self.assertRaises(TypeError):
            list(verdict)


def verdict_cases(verdict):
    return list(small_cases(verdict.placement, verdict.query))


class ExampleTest(unittest.TestCase):
    def test_example(self):
        self.assertEqual(
            [is_right_for(FAR, TOWNS), len(certificate_of(FAR, PRICES)), faults(SPLIT, TOWNS), Verdict(NEAR, PRICES).kinds],
            [False, 4, {(5,): "lost"}, {"changed": 2, "invented": 0, "lost": 0}])


if __name__ == "__main__":
    unittest.main()
