"""[8.1] to [8.4] and the names of stage 8."""

import random
import unittest

from dealtrows.ask.matches import is_match, open_matches
from dealtrows.ask.queries import Clause, Query
from dealtrows.base.databases import Database, first_broken
from dealtrows.base.schemas import Schema
from dealtrows.decide import patterns as found_patterns
from dealtrows.decide.patterns import is_pattern, pattern_of, patterns
from dealtrows.errors import InvalidDatabase, InvalidNumber, InvalidOperation, InvalidQuery, TooMany
from samples import DAY, IDLE, PRICES, SHOP, SPLIT, TOWNS, odd_but, odd_values, shop_again, told_error
from test_placements import CHAIN

FREE = Schema({"a": ("x", "y"), "b": ("x",)})
KEYED = Schema({"a": ("k", "x"), "b": ("k", "y"), "c": ("x",)}, keys={"a": (("k",), ("x",)), "b": (("k",),)},
               references={"ab": ("a", ("x",), "b", ("k",))})
# Rows of t have three parents without other columns.
WIDE = Schema({"t": ("a", "b", "c"), "u": ("k",)}, keys={"u": (("k",),)},
              references={"ra": ("t", ("a",), "u", ("k",)), "rb": ("t", ("b",), "u", ("k",)), "rc": ("t", ("c",), "u", ("k",))})


def one(schema, *parts, form="count", **more):
    return Query(schema, form, Clause(parts, **more))


def many(query):
    return len(list(patterns(query)))


def facts(pattern):
    return (pattern.clause, tuple(pattern.match.items()), pattern.database.pairs(), pattern.fresh)


def partitions(many):
    """All ways to number so many things by their classes."""
    found = [()]
    for _ in range(many):
        found = [(*told, number) for told in found for number in range(len(set(told)) + 1)]
    return found


class TemplateTest(unittest.TestCase):
    def test_constants(self):
        self.assertEqual([found_patterns.MAX_SYMBOLS, found_patterns.MAX_CLOSURE], [7, 8])

    def test_partitions(self):
        self.assertEqual(many(one(FREE, ("b", ("x",)))), 1)
        self.assertEqual(many(one(FREE, ("a", ("x", "y")))), 2)
        self.assertEqual(many(one(FREE, ("a", ("x", "y")), ("a", ("z", "w")))), 15)
        self.assertEqual(many(one(FREE, ("a", ("x", "y")), ("a", ("z", "w")), ("a", ("u", "v")))), 203)
        self.assertEqual(many(one(FREE, ("a", ("x", "y")), ("a", ("x", "y")))), 2)
        self.assertEqual(many(TOWNS), 52)

    def test_classes_have_one_integer_at_most(self):
        self.assertEqual(many(one(FREE, ("b", ("x",)), ("b", (3,)))), 2)
        self.assertEqual(many(one(FREE, ("b", ("x",)), ("a", (3, 4)))), 3)
        self.assertEqual(many(one(FREE, ("a", ("x", "y")), ("a", (3, 4)))), 2 + 2 * 2 + 2 * 1 + 2)
        self.assertEqual(many(one(FREE, ("a", (3, 4)))), 1)

    def test_named_integers_of_other_clauses(self):
        clause = Clause((("a", ("x", "y")),))
        query = Query(FREE, "count", clause, Clause((("b", ("x",)),), tests=(("x", "!=", 5),), absences=()))
        told = [facts(pattern) for pattern in patterns(query)]
        self.assertEqual([len([fact for fact in told if fact[0] == index]) for index in (0, 1)], [5, 1])
        self.assertIn((0, (("x", 5), ("y", 5)), (("a", (5, 5)),), ()), told)
        absent = Query(FREE, "count", Clause((("b", ("x",)),), absences=(("a", (7, 8)),)))
        self.assertEqual(sorted(pattern.match["x"] for pattern in patterns(absent)), [7, 8, 900000])

    def test_equal_terms(self):
        self.assertEqual(many(one(FREE, ("a", ("x", "y")), tests=(("x", "=", "y"),))), 1)
        self.assertEqual(many(one(FREE, ("a", ("x", "y")), tests=(("x", "=", 3),))), 2)
        query = one(FREE, ("a", ("x", "y")), ("b", ("z",)), tests=(("x", "=", "z"), ("z", "=", 3)))
        self.assertEqual([pattern.match for pattern in patterns(query)], [{"x": 3, "y": 3, "z": 3}, {"x": 3, "y": 400000, "z": 3}])
        for tests in ((("x", "=", 3), ("x", "=", 4)), (("x", "=", 3), ("y", "=", 4), ("x", "=", "y")), ((3, "=", 4),)):
            self.assertEqual(many(one(FREE, ("a", ("x", "y")), tests=tests)), 0)
        self.assertEqual(many(one(FREE, ("b", ("x",)), tests=((3, "=", 3), ("x", "=", "x")))), 2)

    def test_unequal_terms(self):
        self.assertEqual(many(one(FREE, ("a", ("x", "y")), tests=(("x", "!=", "y"),))), 1)
        self.assertEqual(many(one(FREE, ("a", ("x", "y")), tests=(("x", "!=", 3),))), 3)
        for tests in ((("x", "!=", "x"),), ((3, "!=", 3),), (("x", "=", "y"), ("y", "!=", "x")), (("x", "=", 3), (3, "!=", "x"))):
            self.assertEqual(many(one(FREE, ("a", ("x", "y")), tests=tests)), 0)
        self.assertEqual(many(one(FREE, ("b", ("x",)), tests=((3, "!=", 4),))), 3)

    def test_keys_make_rows_one(self):
        query = one(KEYED, ("b", ("k", "x")), ("b", ("k", "y")))
        self.assertEqual([pattern.match for pattern in patterns(query)],
                         [{"k": 100000, "x": 100000, "y": 100000}, {"k": 100000, "x": 10 ** 10, "y": 10 ** 10}])
        self.assertEqual(many(one(KEYED, ("b", ("k", 3)), ("b", ("k", 4)))), 0)
        self.assertEqual(many(one(KEYED, ("b", ("k", "x")), ("b", ("k", "y")), tests=(("x", "!=", "y"),))), 0)

    def test_rows_that_become_one_are_one_row_of_symbols(self):
        # c(p, x, y) and c(p, z, w) leave three symbols, so that four more are not too many.
        schema = Schema({"c": ("k", "x", "y"), "d": ("k", "x")}, keys={"c": (("k",),)})
        parts = (("c", ("p", "x", "y")), ("c", ("p", "z", "w")))
        self.assertEqual(many(one(schema, *parts)), 5)
        self.assertEqual(many(one(schema, *parts, ("d", ("u", "v")), tests=((1, "!=", 2),))), many(
            one(schema, parts[0], ("d", ("u", "v")), tests=((1, "!=", 2),))))
        self.assertEqual(told_error(many, one(schema, *parts, ("d", ("u", "v")), tests=((1, "!=", 2), (3, "!=", 2)))), (TooMany, 7))
        # Rows of other tables with the same key stay apart.
        both = Schema({"c": ("k", "x"), "d": ("k", "x")}, keys={"c": (("k",),), "d": (("k",),)})
        self.assertEqual(many(one(both, ("c", ("p", "x")), ("d", ("p", "y")))), 5)

    def test_integers_in_rows_that_become_one(self):
        for parts in ((("b", ("k", 3)), ("b", ("k", "y"))), (("b", ("k", "y")), ("b", ("k", 3)))):
            self.assertEqual([pattern.match["y"] for pattern in patterns(one(KEYED, *parts))], [3, 3])
        self.assertEqual([pattern.match for pattern in patterns(one(FREE, ("b", ("x",)), tests=((3, "=", "x"),)))], [{"x": 3}])

    def test_rows_that_become_one_get_a_parent(self):
        query = one(KEYED, ("a", ("p", "q")), ("a", ("p", "r")))
        told = list(patterns(query))
        self.assertEqual([len(told), {len(pattern.database) for pattern in told}], [5, {2}])

    def test_keys_make_rows_one_behind_another(self):
        # a(p, q) and a(p, r) are one, so that q is r, and then b(q, s) and b(r, t) are one.
        query = one(KEYED, ("a", ("p", "q")), ("a", ("p", "r")), ("b", ("q", "s")))
        told = list(patterns(query))
        self.assertEqual({len(pattern.database) for pattern in told}, {2})
        self.assertTrue(all(pattern.match["q"] == pattern.match["r"] for pattern in told))
        self.assertEqual(len(told), 5)
        # The parent of a(p, r) is b(r, 1), and b(q, s) has the same key in the end.
        query = one(KEYED, ("a", ("p", "q")), ("b", ("q", "s")), ("b", ("r", "t")), tests=(("q", "=", "r"),))
        self.assertTrue(all(pattern.match["s"] == pattern.match["t"] for pattern in patterns(query)))
        # a(p, 3) and a(r, 3) have the same second key; then p is r.
        query = one(KEYED, ("a", ("p", 3)), ("a", ("r", 3)), tests=(("p", "!=", "r"),))
        self.assertEqual(many(query), 0)

    def test_missing_parents(self):
        query = one(SHOP, ("ord", ("c", "i", "n")))
        told = list(patterns(query))
        self.assertEqual(len(told), 52)
        self.assertEqual({len(pattern.database) for pattern in told}, {3})
        widest = max(told, key=lambda pattern: len(pattern.fresh))
        self.assertEqual(widest.match, {"c": 10 ** 5, "i": 10 ** 10, "n": 10 ** 15})
        self.assertEqual(widest.database.pairs(), (("cus", (10 ** 5, 10 ** 20)), ("item", (10 ** 10, 10 ** 25)),
                                                   ("ord", (10 ** 5, 10 ** 10, 10 ** 15))))

    def test_missing_parents_along_several_references(self):
        told = list(patterns(one(CHAIN, ("c", ("k", "p", "q")))))
        # c(k, p, q), b(p, 3), b(q, 4), a(3, 5), a(4, 6): rows of one table with one key are one.
        good = [numbers for numbers in partitions(7)
                if (numbers[1] != numbers[2] or numbers[3] == numbers[4])
                and (numbers[3] != numbers[4] or numbers[5] == numbers[6])]
        self.assertEqual(len(told), len(good))
        self.assertEqual({len(pattern.database) for pattern in told}, {3, 4, 5})

    def test_rows_that_are_parents_already(self):
        query = one(CHAIN, ("c", ("k", "p", "p")), ("b", ("p", "r")), ("a", ("r", "x")))
        self.assertEqual(many(query), 15)
        self.assertEqual({len(pattern.database) for pattern in patterns(query)}, {3})

    def test_rows_are_databases(self):
        query = one(KEYED, ("b", ("k", "x")), ("b", ("m", "y")))
        told = list(patterns(query))
        good = [numbers for numbers in partitions(4) if numbers[0] != numbers[2] or numbers[1] == numbers[3]]
        self.assertEqual(len(told), len(good))
        self.assertTrue(all(first_broken(KEYED, pattern.database.rows) is None for pattern in told))


class NumberingTest(unittest.TestCase):
    def widest(self, query, clause=0):
        told = [pattern for pattern in patterns(query) if pattern.clause == clause]
        return max(told, key=lambda pattern: len(pattern.fresh))

    def test_classes_are_numbered_as_they_stand(self):
        widest = self.widest(TOWNS)
        self.assertEqual(widest.match, {"c": 8 * 10 ** 5, "i": 8 * 10 ** 15, "n": 8 * 10 ** 20, "t": 8 * 10 ** 10})
        self.assertEqual(list(widest.match), ["c", "i", "n", "t"])
        query = one(FREE, ("a", ("z", "y")), ("a", ("x", "y")))
        self.assertEqual(self.widest(query).match, {"x": 10 ** 15, "y": 10 ** 10, "z": 10 ** 5})

    def test_parents_come_behind_all_parts(self):
        query = one(CHAIN, ("b", ("k", "p")), ("a", ("x", "y")))
        self.assertEqual(self.widest(query).match, {"k": 10 ** 5, "p": 10 ** 10, "x": 10 ** 15, "y": 10 ** 20})
        self.assertEqual(self.widest(query).database["a"], ((10 ** 10, 10 ** 25), (10 ** 15, 10 ** 20)))
        # The parents of c, by ascending references, stand before those of b.
        query = one(CHAIN, ("c", (0, "p", "q")))
        rows = self.widest(query).database
        self.assertEqual(rows["b"], ((10 ** 5, 10 ** 15), (10 ** 10, 10 ** 20)))
        self.assertEqual(rows["a"], ((10 ** 15, 10 ** 25), (10 ** 20, 10 ** 30)))

    def test_the_greatest_integer(self):
        self.assertEqual(self.widest(one(FREE, ("b", ("x",)), ("b", (-12,)))).match, {"x": 13 * 10 ** 5})
        self.assertEqual(self.widest(one(FREE, ("b", ("x",)), tests=(("x", "!=", 3),))).match, {"x": 4 * 10 ** 5})
        summed = one(FREE, ("b", ("x",)), form="sum", summed=-9)
        self.assertEqual([self.widest(summed).match, many(summed)], [{"x": 10 ** 6}, 1])
        self.assertEqual(self.widest(one(FREE, ("b", ("x",)), ("b", (0,)))).match, {"x": 10 ** 5})
        both = Query(FREE, "sum", Clause((("b", ("x",)),), summed="x"), Clause((("b", ("x",)),), summed=4))
        self.assertEqual([self.widest(both, index).match["x"] for index in (0, 1)], [5 * 10 ** 5] * 2)

    def test_long_integers(self):
        long = 10 ** 20 - 1
        query = one(FREE, ("a", ("x", long)), form="sum", summed=-long)
        self.assertEqual(self.widest(query).match["x"], 10 ** 25)

    def test_fresh(self):
        found = [pattern.fresh for pattern in patterns(one(FREE, ("a", ("x", "y")), ("b", (2,))))]
        self.assertEqual(sorted(found), [(), (300000,), (300000,), (300000,), (300000, 3 * 10 ** 10)])
        self.assertEqual([pattern.fresh for pattern in patterns(one(FREE, ("b", (2,))))], [()])


class PatternTest(unittest.TestCase):
    def test_properties(self):
        query = Query(FREE, "count", Clause((("b", ("x",)),)), Clause((("b", ("y",)),)))
        first, last = patterns(query)
        self.assertEqual([first.clause, first.match, first.database, first.fresh],
                         [0, {"x": 10 ** 5}, Database(FREE, {"b": ((10 ** 5,),)}), (10 ** 5,)])
        self.assertEqual([last.clause, last.match], [1, {"y": 10 ** 5}])
        self.assertEqual([str(first), str(last)], ["pattern of clause 0 with 1 rows", "pattern of clause 1 with 1 rows"])
        self.assertEqual({str(pattern) for pattern in patterns(TOWNS)}, {"pattern of clause 0 with 3 rows"})

    def test_equality(self):
        again = list(patterns(Query(shop_again(), "distinct", *TOWNS)))
        told = list(patterns(TOWNS))
        for at, pattern in enumerate(told):
            self.assertEqual([at for at, other in enumerate(again) if other == pattern], [at])
            self.assertIs(pattern != again[at], False)
        query = Query(FREE, "count", Clause((("b", ("x",)),)), Clause((("b", ("x",)),)), Clause((("b", ("y",)),)))
        one_, two, three = patterns(query)
        self.assertEqual([one_ == two, two == three, one_ == one_], [False, False, True])
        for value in odd_values():
            self.assertIs(one_ == value, False)
            self.assertIs(one_ != value, True)

    def test_equal_matches_with_other_databases(self):
        told = [pattern for pattern in patterns(one(SHOP, ("ord", ("c", "i", "n")))) if len(set(pattern.match.values())) == 1]
        self.assertEqual(len(told), 5)
        self.assertEqual([pattern == other for pattern in told for other in told].count(True), 5)

    def test_equal_databases_with_other_matches(self):
        told = [pattern for pattern in patterns(one(FREE, ("b", ("x",)), ("b", ("y",)), ("b", ("z",)))) if len(pattern.database) == 2]
        self.assertEqual(len(told), 3)
        self.assertEqual([told[0].database == other.database for other in told], [True] * 3)
        self.assertEqual([told[0] == other for other in told], [True, False, False])

    def test_nothing_is_shared(self):
        pattern = next(patterns(TOWNS))
        pattern.match.clear()
        self.assertEqual(len(pattern.match), 4)

    def test_is_not_iterated_over(self):
        with self.assertRaises(TypeError):
            list(next(patterns(TOWNS)))

    def test_several_clauses(self):
        query = Query(SHOP, "count", *PRICES, Clause((("cus", ("c", "t")),), head=("t",)), *PRICES)
        self.assertEqual([pattern.clause for pattern in patterns(query)], [0, 0, 1, 1, 2, 2])


class LimitTest(unittest.TestCase):
    def test_symbols(self):
        seven = one(FREE, ("a", ("x", "y")), ("a", ("z", "w")), ("a", ("u", "v")))
        self.assertEqual(many(seven + one(FREE, ("b", (5,)))), 203 + many_with_one(6) + 1)
        eight = seven + one(FREE, ("a", (5, 6)))
        self.assertEqual(told_error(many, eight), (TooMany, 7))
        self.assertEqual(told_error(many, one(WIDE, ("t", ("x", "y", "z")), ("t", ("u", "v", "w")), ("t", ("p", "q", "q")))),
                         (TooMany, 7))

    def test_new_symbols_count_and_terms_that_are_one_do_not(self):
        self.assertEqual(told_error(many, one(SHOP, ("ord", ("c", "i", "n")), ("cus", ("x", "y")), ("item", ("z", 1)))),
                         (TooMany, 7))
        joined = one(SHOP, ("ord", ("c", "i", "n")), ("cus", ("x", "y")), ("item", ("z", "p")),
                     tests=(("c", "=", "x"), ("i", "=", "z")))
        self.assertEqual(many(joined), 52)
        self.assertEqual(many(one(FREE, ("a", ("x", "y")), ("a", ("z", "w")), ("a", ("u", "v")), tests=(("x", "=", 1), ("y", "=", 2)))),
                         sum(1 for numbers in partitions(6) if numbers[0] != numbers[1]))

    def test_rows(self):
        rows = (("t", ("x", "y", "z")), ("t", ("u", "v", "w")))
        told = list(patterns(one(WIDE, *rows)))
        self.assertEqual([len(told), max(len(pattern.database) for pattern in told)], [203, 8])
        self.assertEqual(told_error(many, one(WIDE, *rows, ("u", ("s",)))), (TooMany, 8))

    def test_which_comes_first(self):
        wide = one(WIDE, ("t", ("x", "y", "z")), ("t", ("u", "v", "w")), ("u", ("s",)))
        long = one(WIDE, ("t", ("x", "y", "z")), ("t", ("u", "v", "w")), ("t", ("p", "q", "r")))
        self.assertEqual(told_error(many, wide + long), (TooMany, 8))
        self.assertEqual(told_error(many, long + wide), (TooMany, 7))
        # With one named integer the first clause has too many symbols, too.
        self.assertEqual(told_error(many, wide + one(WIDE, ("u", (1,)))), (TooMany, 7))
        self.assertEqual(told_error(many, one(WIDE, ("u", ("x",))) + wide), (TooMany, 8))

    def test_a_clause_without_template_is_not_too_large(self):
        clause = Clause((("a", ("x", "y")), ("a", ("z", "w")), ("a", ("u", "v"))), tests=(("x", "!=", "x"), ("y", "!=", 3)))
        self.assertEqual(many(Query(FREE, "count", clause, Clause((("b", (1,)),)))), 1)

    def test_errors_come_with_the_first_result(self):
        for value in odd_but(Query):
            generator = patterns(value)
            with self.assertRaises(InvalidQuery):
                next(generator)


def many_with_one(many_symbols):
    """How many partitions of so many symbols and one integer there are, less those of the symbols."""
    return len(partitions(many_symbols + 1)) - len(partitions(many_symbols))


class PatternOfTest(unittest.TestCase):
    def test_values(self):
        rows = DAY.with_row("cus", (7, 7)).with_row("ord", (7, 9, 9))
        found = pattern_of(TOWNS, 0, rows, {"c": 7, "i": 9, "n": 9, "t": 7})
        low, high = 8 * 10 ** 5, 8 * 10 ** 10
        self.assertEqual(found.match, {"c": 7, "i": low, "n": low, "t": 7})
        self.assertEqual([found.fresh, found.clause], [(low,), 0])
        self.assertEqual(found.database.rows, {"cus": ((7, 7),), "item": ((low, 7),), "ord": ((7, low, low),)})
        other = pattern_of(TOWNS, 0, rows, {"c": 1, "i": 9, "n": 3, "t": 5})
        self.assertEqual(other.fresh, (low, high, 8 * 10 ** 15, 8 * 10 ** 20))

    def test_summed_integers_are_not_named(self):
        query = one(FREE, ("b", ("x",)), form="sum", summed=3)
        self.assertEqual(pattern_of(query, 0, Database(FREE, {"b": ((3,),)}), {"x": 3}).match, {"x": 400000})

    def test_open_matches_are_enough(self):
        query = Query(SHOP, "count", IDLE)
        self.assertIs(is_match(query, 0, DAY.rows, {"c": 1, "i": 9, "p": 7, "t": 5}), False)
        self.assertIs(is_pattern(query, pattern_of(query, 0, DAY, {"c": 1, "i": 9, "p": 7, "t": 5})), True)

    def test_errors(self):
        good = {"i": 9, "p": 7}
        for value in odd_but(Query):
            self.assertEqual(told_error(pattern_of, value, None, None, None), (InvalidQuery,))
        for index in (1, -1, True, False, None, "0", (0,), 10 ** 70):
            self.assertEqual(told_error(pattern_of, PRICES, index, None, None), (InvalidNumber, index))
        for value in (*odd_but(Database), DAY.rows, Database(FREE)):
            self.assertEqual(told_error(pattern_of, PRICES, 0, value, None), (InvalidDatabase,))
        for match in ({"i": 9, "p": 8}, {"i": 9}, {**good, "x": 1}, {"i": True, "p": 7}, (9, 7), {"i": 9, "p": "7"}, {},
                      {"i": 9, "p": [7]}, *odd_values()):
            self.assertEqual(told_error(pattern_of, PRICES, 0, DAY, match), (InvalidOperation,))
        tested = Query(SHOP, "count", Clause((("item", ("i", "p")),), tests=(("i", "=", "p"),)))
        self.assertEqual(told_error(pattern_of, tested, 0, DAY, good), (InvalidOperation,))

    def test_too_many(self):
        long = Clause((("a", ("x", "y")), ("a", ("z", "w")), ("a", ("u", "v"))), tests=((1, "!=", 2),))
        query = Query(FREE, "count", long, Clause((("b", ("x",)),)))
        rows = Database(FREE, {"a": ((0, 0),), "b": ((0,),)})
        match = {name: 0 for name in "xyzwuv"}
        self.assertEqual(told_error(pattern_of, query, 0, rows, {**match, "x": 1}), (InvalidOperation,))
        self.assertEqual(told_error(pattern_of, query, 0, rows, match), (TooMany, 7))
        self.assertEqual(pattern_of(query, 1, rows, {"x": 0}).match, {"x": 300000})
        wide = one(WIDE, ("t", ("x", "y", "z")), ("t", ("u", "v", "w")), ("u", ("s",)))
        rows = Database(WIDE, {"t": ((0, 0, 0),), "u": ((0,),)})
        self.assertEqual(told_error(pattern_of, wide, 0, rows, {name: 0 for name in "xyzuvws"}), (TooMany, 8))


class IsPatternTest(unittest.TestCase):
    def test_patterns(self):
        for pattern in patterns(TOWNS):
            self.assertIs(is_pattern(TOWNS, pattern), True)
            self.assertIs(is_pattern(PRICES, pattern), False)
            self.assertIs(is_pattern(one(FREE, ("b", ("x",))), pattern), False)

    def test_patterns_of_queries_that_are_alike(self):
        parts = (("a", ("x", "y")),)
        plain, named = one(FREE, *parts), one(FREE, *parts, tests=((5, "!=", 6),))
        tested, summed = one(FREE, *parts, tests=(("x", "!=", "y"),)), one(FREE, *parts, form="sum", summed=4)
        counts = [[sum(is_pattern(query, pattern) for pattern in patterns(other)) for other in (plain, named, tested, summed)]
                  for query in (plain, named, tested, summed)]
        self.assertEqual(counts, [[2, 0, 1, 0], [0, 10, 0, 0], [1, 0, 1, 0], [0, 0, 0, 2]])
        two = plain + plain
        self.assertEqual([is_pattern(plain, pattern) for pattern in patterns(two)], [True, True, False, False])

    def test_patterns_of_other_schemas(self):
        loose = SHOP.without_reference("oc").without_reference("oi")
        for pattern in patterns(one(loose, ("ord", ("c", "i", "n")))):
            self.assertIs(is_pattern(one(SHOP, ("ord", ("c", "i", "n"))), pattern), False)

    def test_other_values(self):
        for value in (*odd_values(), SPLIT, next(patterns(TOWNS)).match):
            self.assertIs(is_pattern(TOWNS, value), False)

    def test_errors(self):
        for value in odd_but(Query):
            self.assertEqual(told_error(is_pattern, value, None), (InvalidQuery,))
        long = one(FREE, ("a", ("x", "y")), ("a", ("z", "w")), ("a", ("u", "v")), tests=((1, "!=", 2),))
        self.assertEqual(told_error(is_pattern, long, None), (TooMany, 7))


class EachOpenMatchTest(unittest.TestCase):
    """[8.4], with databases over three values."""

    def queries(self):
        yield TOWNS
        yield PRICES + Query(SHOP, "count", Clause((("ord", ("c", "i", "n")),), tests=(("n", "!=", 2),), head=("n",)))
        yield one(CHAIN, ("c", ("k", "p", "q")))
        yield one(CHAIN, ("b", ("k", "p")), ("b", ("p", "q")), tests=(("q", "!=", "k"),))
        yield one(KEYED, ("a", ("p", "q")), ("b", ("r", "q")), ("c", ("s",)), tests=(("s", "!=", "p"),))
        yield one(KEYED, ("a", ("p", 1)), ("a", (2, "q")))

    def some_database(self, source, schema):
        rows = Database(schema)
        for _ in range(40):
            table = source.choice(list(schema.tables))
            row = tuple(source.choice((1, 2, 7)) for _ in schema.columns_of(table))
            told = {**rows.rows, table: tuple(sorted({*rows[table], row}))}
            if first_broken(schema, told) is None:
                rows = Database(schema, told)
        return rows

    def test_each_has_one_pattern(self):
        source = random.Random(3)
        for query in self.queries():
            known = [facts(pattern) for pattern in patterns(query)]
            self.assertEqual(len(known), len(set(known)))
            seen = 0
            for _ in range(12):
                rows = self.some_database(source, query.schema)
                for index in range(len(query)):
                    for match in open_matches(query, index, rows.rows):
                        self.assertIn(facts(pattern_of(query, index, rows, match)), known)
                        seen += 1
            self.assertGreater(seen, 5)

    def test_a_pattern_is_its_own(self):
        for query in self.queries():
            for pattern in patterns(query):
                self.assertEqual(facts(pattern_of(query, pattern.clause, pattern.database, pattern.match)), facts(pattern))
                self.assertIs(is_pattern(query, pattern), True)


class ExampleTest(unittest.TestCase):
    def test_example(self):
        found = pattern_of(PRICES, 0, DAY, {"i": 9, "p": 7})
        self.assertEqual([found.match, found.fresh, found.database.pairs()],
                         [{"i": 100000, "p": 10000000000}, (100000, 10000000000), (("item", (100000, 10000000000)),)])


if __name__ == "__main__":
    unittest.main()
