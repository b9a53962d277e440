"""[0.23], [11.1] to [11.4] and the names of stage 11."""

import itertools
import unittest

from dealtrows.ask.matches import is_match
from dealtrows.ask.queries import Clause, Query
from dealtrows.base.schemas import Schema
from dealtrows.deal.cases import Case
from dealtrows.deal.placements import Placement
from dealtrows.decide import colocated
from dealtrows.decide.colocated import asked, co_location, co_locations, is_co_location, is_co_location_table, is_route
from dealtrows.decide.colocated import routes, stranded
from dealtrows.decide.patterns import patterns
from dealtrows.decide.verdicts import is_right_for
from dealtrows.errors import InvalidCase, InvalidOperation, InvalidPlacement, InvalidQuery, TooMany
import naive
from samples import DAY, FAR, IDLE, NEAR, PRICES, SHOP, SIXTY_ONE, SPLIT, TOWNS, case_with, odd_but, odd_values
from samples import told_error
from test_smallcases import BANS, bans

ALL, FIRST, ANY = ("all",), ("first",), ("any",)
FREE = Schema({"a": ("x", "y"), "b": ("x", "y")})
THREE = Query(SHOP, "distinct", Clause((("cus", (3, "t")),), head=("t",)))


def distinct(*clauses, schema=FREE):
    return Query(schema, "distinct", *[clause if isinstance(clause, Clause) else Clause(clause) for clause in clauses])


def free(a=(("by", "s", ("x",)),), b=(("by", "s", ("x",)),)):
    return Placement(FREE, a=a, b=b)


def by(spread, *integers):
    return ("by", spread, integers)


def naive_co_locations(placement, query, pattern):
    """[11.1], by trying all matches over the integers of the pattern."""
    numbers = sorted({number for _, row in pattern.database.pairs() for number in row})
    head = [pattern.match[name] for name in query.clauses[pattern.clause].head]
    found = []
    for index, clause in enumerate(query.clauses):
        for values in itertools.product(numbers, repeat=len(clause.variables)):
            match = dict(zip(clause.variables, values))
            if is_match(query, index, pattern.database.rows, match) and [match[name] for name in clause.head] == head:
                told = [set(placement.places_of(pattern.database, table, tuple(match.get(term, term) for term in terms)))
                        for table, terms in clause.parts]
                told = [places for places in told if ALL not in places]
                places = set.intersection(*told) if told else {ALL}
                found.extend((index, match, place) for place in places)
    return found


def pairs():
    """Placements and queries of the right form."""
    yield NEAR, TOWNS
    yield FAR, TOWNS
    yield NEAR, THREE
    yield free(), distinct((("a", ("x", "y")), ("b", ("x", "z"))))
    yield free(), distinct((("a", ("x", "y")), ("b", ("z", "y"))))
    yield free(a=(ALL,)), distinct((("a", ("x", "y")), ("b", ("z", "y"))))
    yield free(a=(FIRST,), b=(ALL,)), distinct((("a", ("x", "y")), ("b", ("z", "y"))))
    yield free(a=(ANY,), b=(FIRST,)), distinct((("a", (1, "y")),), (("b", (1, "z")),))
    yield free(a=(("by", "s", ("x",)), FIRST)), distinct((("a", ("x", "y")), ("b", ("x", "z"))))
    yield free(a=(("by", "s", ("x",)), ("by", "s", ("y",)))), distinct((("a", ("x", 3)), ("b", (3, "x"))), (("b", ("x", 4)),))
    yield free(b=(("by", "t", ("y",)),)), distinct((("a", (3, "y")), ("b", ("z", 3))), (("a", (3, "y")),))


class CoLocationTest(unittest.TestCase):
    def test_by_the_words_of_the_document(self):
        for placement, query in pairs():
            for pattern in patterns(query):
                told = naive_co_locations(placement, query, pattern)
                found = co_location(placement, query, pattern)
                self.assertEqual(found in told, bool(told))
                self.assertEqual(found is None, not told)
                for value in told:
                    self.assertIs(is_co_location(placement, query, pattern, value), True)

    def test_values_near_them(self):
        for placement, query in pairs():
            for pattern in itertools.islice(patterns(query), 6):
                told = naive_co_locations(placement, query, pattern)
                places = [*placement.places_in(pattern.database), ALL, FIRST]
                for index in (*range(len(query)), len(query), -1):
                    for place in places:
                        value = (index, pattern.match, place)
                        self.assertEqual(is_co_location(placement, query, pattern, value), value in told)

    def test_everywhere_and_first(self):
        query = distinct((("a", ("x", "y")), ("b", ("z", "y"))))
        for placement, place in ((free(a=(ALL,), b=(ALL,)), ALL), (free(a=(FIRST,), b=(ALL,)), FIRST),
                                 (free(a=(ALL,), b=(ANY,)), None), (free(a=(FIRST,), b=(FIRST,)), FIRST)):
            for pattern in patterns(query):
                found = co_location(placement, query, pattern)
                self.assertEqual(found[2], place or ("any", "b", pattern.database["b"][0]))
                # All rows that lie everywhere have the place ("all",) and no other one.
                self.assertIs(is_co_location(placement, query, pattern, (0, pattern.match, ALL)), place == ALL)

    def test_places_that_only_some_rows_have(self):
        query = distinct((("a", ("x", "y")), ("b", ("x", "z"))))
        placement = free(a=(("by", "s", ("x",)), FIRST), b=(("by", "s", ("x",)), ("by", "t", ("y",))))
        for pattern in patterns(query):
            x = pattern.match["x"]
            self.assertEqual(co_location(placement, query, pattern), (0, pattern.match, by("s", x)))
            for place in (FIRST, by("t", pattern.match["z"]), by("s", x + 1), ALL):
                self.assertIs(is_co_location(placement, query, pattern, (0, pattern.match, place)), False)

    def test_other_matches_with_the_same_head(self):
        # b lies with a only where the match takes one row twice.
        query = distinct((("a", ("x", "y")), ("a", ("z", "y"))))
        for pattern in patterns(query):
            found = co_location(free(), query, pattern)
            self.assertEqual(found[1]["x"], found[1]["z"])
            self.assertIs(is_co_location(free(), query, pattern, (0, pattern.match, by("s", pattern.match["x"]))),
                          pattern.match["x"] == pattern.match["z"])
        headed = distinct(Clause((("a", ("x", "y")), ("a", ("z", "y"))), head=("x", "z")))
        self.assertIn(None, [co_location(free(), headed, pattern) for pattern in patterns(headed)])

    def test_other_values(self):
        pattern = next(patterns(THREE))
        good = (0, {"t": 3}, by("s", 3))
        self.assertEqual(pattern.match, {"t": 3})
        self.assertIs(is_co_location(NEAR, THREE, pattern, good), True)
        wrong = (None, (), good[:2], [*good], (*good, 1), (False, *good[1:]), (1, *good[1:]), (-1, *good[1:]), (None, *good[1:]),
                 (0, {"t": 4}, good[2]), (0, {}, good[2]), (0, {"t": 3, "x": 3}, good[2]), (0, (3,), good[2]), (0, None, good[2]),
                 (0, {"t": True}, good[2]), (0, {"t": [3]}, good[2]), (0, {"t": 3}, by("s", 4)), (0, {"t": 3}, ALL),
                 (0, {"t": 3}, None), (0, {"t": 3}, ("by", "s", [3])), (0, {"t": 3}, ("by", "s")), (0, {"t": 3}, [good[2]]))
        for value in (*wrong, *odd_values()):
            self.assertIs(is_co_location(NEAR, THREE, pattern, value), False, value)
        ones = distinct(Clause((("a", (1, "y")),), head=("y",)))
        (first, *_) = [pattern for pattern in patterns(ones) if pattern.match == {"y": 1}]
        self.assertIs(is_co_location(free(), ones, first, (0, {"y": 1}, by("s", 1))), True)
        for value in ((0, {"y": True}, by("s", 1)), (0, {"y": 1}, by("s", True)), (False, {"y": 1}, by("s", 1))):
            self.assertIs(is_co_location(free(), ones, first, value), False)

    def test_errors(self):
        pattern = next(patterns(TOWNS))
        large = distinct((("a", ("x", "y")), ("a", ("z", "w")), ("a", ("u", 5))), (("a", (1, 2)),))
        for call in (co_location, lambda *told: is_co_location(*told, None)):
            for value in odd_but(Placement):
                self.assertEqual(told_error(call, value, None, None), (InvalidPlacement,))
            for value in odd_but(Query):
                self.assertEqual(told_error(call, FAR, value, None), (InvalidQuery,))
            for value in odd_values():
                self.assertEqual(told_error(call, FAR, TOWNS, value), (InvalidOperation,))
            self.assertEqual(told_error(call, free(), TOWNS, pattern), (InvalidOperation,))
            self.assertEqual(told_error(call, FAR, PRICES, pattern), (InvalidOperation,))
            self.assertEqual(told_error(call, FAR, Query(SHOP, "distinct", IDLE), pattern), (InvalidOperation,))
            self.assertEqual(told_error(call, FAR, THREE, pattern), (InvalidOperation,))
            # A pattern of another query comes last, behind TooMany, and no pattern at all comes before.
            self.assertEqual(told_error(call, free(), large, pattern), (TooMany, 7))
            self.assertEqual(told_error(call, free(), large, None), (InvalidOperation,))


class TableTest(unittest.TestCase):
    def test_tables(self):
        for placement, query in pairs():
            found = co_locations(placement, query)
            told = [naive_co_locations(placement, query, pattern) for pattern in patterns(query)]
            self.assertEqual(found is not None, all(told))
            self.assertEqual(found is not None, is_right_for(placement, query))
            self.assertIs(is_co_location_table(placement, query, None), False)
            if found is not None:
                self.assertIs(is_co_location_table(placement, query, found), True)
                self.assertIs(is_co_location_table(placement, query, found[::-1]), True)
                others = tuple([(pattern, values[-1]) for pattern, values in zip(patterns(query), told)])
                self.assertIs(is_co_location_table(placement, query, others), True)

    def test_spoiled_tables(self):
        found = co_locations(NEAR, TOWNS)
        (pattern, told), rest = found[0], found[1:]
        other = next(patterns(THREE))
        wrong = ((), rest, rest + rest[:1], found + found[:1], list(found), dict(enumerate(found)), ((pattern, told, 1), *rest),
                 ([pattern, told], *rest), ((told, pattern), *rest), ((pattern, rest[0][1]), *rest), ((pattern, None), *rest),
                 ((None, told), *rest), ((other, told), *rest), (None, *rest), (pattern, *rest), ((pattern, told[:2]), *rest))
        for value in (*wrong, *odd_values()):
            self.assertIs(is_co_location_table(NEAR, TOWNS, value), False)
        self.assertIs(is_co_location_table(FAR, TOWNS, found), False)
        none = distinct(Clause((("a", ("x", "y")),), tests=(("x", "!=", "x"),)))
        self.assertEqual([co_locations(free(), none), is_co_location_table(free(), none, ())], [(), True])

    def test_errors(self):
        large = distinct((("a", ("x", "y")), ("a", ("z", "w")), ("a", ("u", 5))), (("a", (1, 2)),))
        for call in (co_locations, lambda *told: is_co_location_table(*told, None), routes, lambda *told: is_route(*told, None)):
            for value in odd_but(Placement):
                self.assertEqual(told_error(call, value, None), (InvalidPlacement,))
            for value in odd_but(Query):
                self.assertEqual(told_error(call, FAR, value), (InvalidQuery,))
            self.assertEqual(told_error(call, free(), TOWNS), (InvalidOperation,))
            for query in (PRICES, Query(SHOP, "distinct", IDLE), Query(SHOP, "distinct", *THREE, IDLE)):
                self.assertEqual(told_error(call, FAR, query), (InvalidOperation,))
            self.assertEqual(told_error(call, free(), large), (TooMany, 7))
            self.assertEqual(told_error(call, free(), Query(FREE, "count", *large)), (InvalidOperation,))


class RoutesTest(unittest.TestCase):
    def naive_routes(self, placement, query):
        """The least routes, by [11.4] and [11.3]."""
        needs = [{place for _, _, place in naive_co_locations(placement, query, pattern)} for pattern in patterns(query)]
        named = [("by", spread, integers) for spread, arity in placement.spreads.items()
                 for integers in itertools.product(query.integers, repeat=arity)]
        enough = [set(route) for size in range(len(named) + 1) for route in itertools.combinations(named, size)
                  if all(need & {ALL, FIRST, *route} for need in needs)]
        return tuple(sorted(tuple(sorted(route)) for route in enough if not any(other < route for other in enough)))

    def test_least_routes(self):
        told = set()
        for placement, query in pairs():
            found = routes(placement, query)
            self.assertEqual(found, self.naive_routes(placement, query))
            told.add(len(found))
        self.assertEqual(routes(free(a=(FIRST,), b=(ALL,)), distinct((("a", ("x", "y")),))), ((),))
        self.assertGreater(len(told), 1)

    def test_choices_of_places(self):
        query = distinct((("a", (3, 4)),), (("a", (5, 6)),))
        both = free(a=(("by", "s", ("x",)), ("by", "t", ("y", "x"))))
        self.assertEqual(routes(both, query), (
            (by("s", 3), by("s", 5)), (by("s", 3), by("t", 6, 5)), (by("s", 5), by("t", 4, 3)), (by("t", 4, 3), by("t", 6, 5))))
        same = distinct((("a", (3, 4)),), (("a", (3, 6)),))
        self.assertEqual(routes(both, same), ((by("s", 3),), (by("t", 4, 3), by("t", 6, 3))))

    def test_places_that_are_no_places_of_routes(self):
        query = distinct((("a", (1, 2)),))
        self.assertEqual(routes(free(a=(ANY,)), query), ())
        self.assertEqual(routes(free(a=(ANY, ("by", "t", ("y",)))), query), ((by("t", 2),),))
        self.assertIs(is_route(free(a=(ANY,)), query, (("any", "a", (1, 2)),)), False)

    def test_is_route(self):
        query = distinct((("a", (3, 4)),), (("a", (5, 6)),))
        both = free(a=(("by", "s", ("x",)), ("by", "t", ("y", "x"))))
        for route, told in (((by("s", 3), by("s", 5)), True), ((by("s", 3), by("s", 5), by("t", 3, 3)), True),
                            ((by("s", 3),), False), ((), False), ((by("s", 4), by("s", 6)), False),
                            ((by("s", 5), by("s", 3)), False), ((by("s", 3), by("s", 3), by("s", 5)), False)):
            self.assertIs(is_route(both, query, route), told)
        self.assertIs(is_route(free(a=(FIRST,)), distinct((("a", (3, 4)),)), ()), True)
        self.assertIs(is_route(free(a=(FIRST,)), distinct((("a", (3, 4)),)), (by("s", 3),)), True)

    def test_values_that_are_no_routes(self):
        query = distinct((("a", (1, 4)),))
        good = (by("s", 1),)
        self.assertIs(is_route(free(), query, good), True)
        for value in (None, list(good), good[0], (*good, ALL), (*good, FIRST), (by("s", True),), (*good, by("s", 5)),
                      (*good, by("t", 1)), (by("s", 1), by("s", 1, 1)), (*good, by("s")), (by("S", 1),), (*good, None),
                      (("by", "s", [1]),), (("any", "a", (1,)), *good), (("by", "s", 1),), (["by", "s", (1,)],),
                      (*good, by("s", SIXTY_ONE)), (*good, ("by", "s", (1,), 0)), (("by", ["s"], (1,)),), (("any", "s", (1,)),),
                      (("BY", "s", (1,)),), (by("u"),), *odd_values()):
            self.assertIs(is_route(free(), query, value), False, value)
            if value != ():
                self.assertEqual(told_error(stranded, free(), query, value), (InvalidOperation,), value)

    def test_places_of_parents(self):
        schema = Schema({"a": ("k", "l"), "b": ("k", "l"), "c": ("k",)}, keys={"c": (("k",),)},
                        references={"ak": ("a", ("k",), "c", ("k",)), "al": ("a", ("l",), "c", ("k",)),
                                    "bk": ("b", ("k",), "c", ("k",)), "bl": ("b", ("l",), "c", ("k",))})
        both = (("by", "s", ("k",)), ("by", "t", ("k",)))
        for rules in (both[:1], both):
            placement = Placement(schema, a=(("with", "ak"), ("with", "al")), b=(("with", "bk"), ("with", "bl")), c=rules)
            query = Query(schema, "distinct", Clause((("a", (1, 2)),)), Clause((("b", (3, 4)),)))
            self.assertEqual(len(routes(placement, query)), (2 * len(rules)) ** 2)


class ManyPlacesTest(unittest.TestCase):
    """Ten places and more than ten: rows that the variables of a clause can become, all of named integers."""

    SCHEMA = Schema({"a": ("k", "l"), "b": ("k", "l")})

    def query(self, *clauses):
        return Query(self.SCHEMA, "distinct", *[Clause(parts, tests=tests) for parts, tests in clauses])

    def test_limit(self):
        self.assertEqual(colocated.MAX_ROUTE_PLACES, 10)
        placement = Placement(self.SCHEMA, a=(("by", "s", ("k", "l")), ("by", "t", ("l", "k"))), b=(("by", "z", ("k",)),))
        x, y = "x", "y"
        three = self.query(((("a", (1, 2)),), ()), ((("a", (3, 4)),), ()), ((("a", (2, 2)),), ()))
        self.assertEqual(len(routes(placement, three)), 8)
        # Where x and y are named, a(x, y) is one of sixteen rows with two places each.
        loose = self.query(((("a", (x, y)),), ((1, "!=", 2), (3, "!=", 4))))
        self.assertEqual(told_error(routes, placement, loose), (TooMany, 10))
        halved = self.query(((("a", (x, 1)),), ((2, "!=", 3), (1, "!=", 4))))
        self.assertEqual(routes(placement, halved), ())
        # Ten places of five rows: in four of them x is a named integer.
        ten = self.query(((("a", (x, 1)),), ((2, "!=", 3), (1, "!=", 4))), ((("a", (1, 2)),), ()))
        self.assertEqual(routes(placement, ten), ())
        eleven = ten + self.query(((("b", (1, 2)),), ()))
        self.assertEqual(told_error(routes, placement, eleven), (TooMany, 10))
        # Patterns with co-locations on node 0, or everywhere, do not count.
        first = Placement(self.SCHEMA, a=(FIRST,), b=(ANY,))
        self.assertEqual(routes(first, loose), ((),))


class StrandedTest(unittest.TestCase):
    def told_by(self, case, query, nodes):
        """The heads that some nodes tell."""
        return {head for node in nodes for head in case.local(query, node).heads}

    def check(self, placement, query, route):
        case = stranded(placement, query, route)
        if is_route(placement, query, route):
            self.assertIsNone(case)
        else:
            self.assertIsInstance(case, Case)
            self.assertEqual(case.placement, placement)
            heads = set(case.whole(query).heads)
            self.assertFalse(heads <= self.told_by(case, query, asked(case, route)), placement.rules)

    def test_routes(self):
        for placement, query in pairs():
            named = [("by", spread, integers) for spread, arity in placement.spreads.items()
                     for integers in itertools.product(query.integers, repeat=arity)]
            for size in range(len(named) + 1):
                for route in itertools.combinations(sorted(named), size):
                    self.check(placement, query, route)
        self.check(NEAR, Query(SHOP, "distinct", *THREE, *PRICES), (by("s", 3),))

    def test_parents_that_stand_in_no_part(self):
        placement = Placement(SHOP, cus=(ANY,), item=(("by", "t", ("code",)),), ord=(("by", "s", ("no",)),))
        query = Query(SHOP, "distinct", Clause((("ord", ("c", 8, 9)),)))
        self.check(placement, query, ())
        self.check(placement, query, (by("t", 8),))
        self.check(placement, query, (by("s", 9),))

    def test_enough_routes_tell_all_heads(self):
        schema = Schema({"a": ("x",), "b": ("x",)})
        placement = Placement(schema, a=(("by", "s", ("x",)),), b=(("by", "t", ("x",)),))
        query = Query(schema, "distinct", Clause((("a", (0,)),)), Clause((("b", (1,)), ("b", ("x",)))))
        for route in ((by("s", 0), by("t", 1)), (by("s", 0),), (by("t", 1),), (by("s", 0), by("s", 1), by("t", 0), by("t", 1))):
            told = all(set(case.whole(query).heads) <= self.told_by(case, query, asked(case, route))
                       for case in naive.all_cases(placement, (0, 1), 4, 3))
            self.assertEqual(is_route(placement, query, route), told)

    def test_errors(self):
        good = (by("s", 3),)
        for value in odd_but(Placement):
            self.assertEqual(told_error(stranded, value, None, None), (InvalidPlacement,))
        for value in odd_but(Query):
            self.assertEqual(told_error(stranded, NEAR, value, None), (InvalidQuery,))
        self.assertEqual(told_error(stranded, free(), TOWNS, None), (InvalidOperation,))
        self.assertEqual(told_error(stranded, NEAR, PRICES, ()), (InvalidOperation,))
        self.assertEqual(told_error(stranded, NEAR, Query(SHOP, "distinct", IDLE), ()), (InvalidOperation,))
        self.assertEqual(told_error(stranded, NEAR, THREE, (by("s", 4),)), (InvalidOperation,))
        self.assertIsNone(stranded(NEAR, THREE, good))
        large = distinct((("a", ("x", "y")), ("a", ("z", "w")), ("a", ("u", 5))), (("a", (1, 2)),))
        self.assertEqual(told_error(stranded, free(), large, None), (InvalidOperation,))
        self.assertEqual(told_error(stranded, free(), large, ()), (TooMany, 7))

    def test_errors_of_small_cases(self):
        schema = Schema({"a": ("k", "l"), "b": ("k",)}, keys={"b": (("k",),)},
                        references={"rk": ("a", ("k",), "b", ("k",)), "rl": ("a", ("l",), "b", ("k",))})
        placement = Placement(schema, a=(("with", "rk"), ("with", "rl")), b=(("by", "s", ("k",)), ("by", "t", ("k",))))
        query = Query(schema, "distinct", Clause((("a", ("x", "y")), ("a", ("z", "w")))))
        self.assertEqual(told_error(stranded, placement, query, ()), (TooMany, 6))
        self.assertIsNone(told_error(co_locations, placement, query))
        wide = Schema({"a": ("k", "l", "m", "n")})
        seven = Clause((("a", ("x", "y", "z", "u")), ("a", ("v", "w", "s", "s"))))
        everywhere = Placement(wide, a=(ALL,))
        self.assertEqual(told_error(stranded, everywhere, Query(wide, "distinct", seven, seven, seven), ()), (TooMany, 2000))
        self.assertIsNone(stranded(everywhere, Query(wide, "distinct", seven, seven), ()))


class AskedTest(unittest.TestCase):
    def test_asked(self):
        self.assertEqual(asked(SPLIT, ()), (0,))
        self.assertEqual(asked(SPLIT, (by("s", 1),)), (0,))
        self.assertEqual(asked(SPLIT, (by("s", 1), by("s", 9), by("t", 1))), (0,))
        case = case_with(FAR, DAY.with_row("cus", (2, 2)).rows, 5, {by("s", 1): 4, by("s", 2): 2, by("t", 9): 4})
        self.assertEqual(asked(case, (by("s", 1), by("s", 2), by("t", 9))), (0, 2, 4))
        self.assertEqual(asked(case, (by("t", 9),)), (0, 4))
        self.assertEqual(asked(case, (by("s", -5),)), (0,))

    def test_errors(self):
        for value in odd_but(Case):
            self.assertEqual(told_error(asked, value, None), (InvalidCase,))
        for route in (None, [by("t", 9)], by("t", 9), (by("t", 9), by("s", 1)), (by("t", 9), by("t", 9)), (by("u", 9),),
                      (by("t", 9, 9),), (by("t"),), (by("t", True),), (by("t", SIXTY_ONE),), (ALL,), (FIRST,),
                      (("any", "item", (9, 7)),), (("any", "t", (9,)),), (by("u"),), (("by", ["t"], (9,)),), (by("t", "9"),), (None,), *[value for value in odd_values() if value != ()]):
            self.assertEqual(told_error(asked, SPLIT, route), (InvalidOperation,), route)


class ExampleTest(unittest.TestCase):
    def test_example(self):
        self.assertEqual([routes(NEAR, THREE), routes(NEAR, TOWNS), asked(SPLIT, (("by", "t", (9,)),))],
                         [((("by", "s", (3,)),),), (), (0, 1)])


if __name__ == "__main__":
    unittest.main()
