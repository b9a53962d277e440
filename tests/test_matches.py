"""[0.13], [0.14], [5.1], [5.2] and the functions of stage 5."""

import itertools
import random
import unittest

from dealtrows.ask import matches as matching
from dealtrows.ask.matches import answer_on, blocking_rows, is_match, match_head, match_rows, matches, open_matches
from dealtrows.ask.matches import witnesses
from dealtrows.ask.queries import Clause, Query
from dealtrows.base.answers import Answer
from dealtrows.base.schemas import Schema
from dealtrows.errors import InvalidNumber, InvalidOperation, InvalidQuery, InvalidRow, TooMany
from samples import DAY, IDLE, PRICES, SHOP, SIXTY, SIXTY_ONE, TOWNS, odd_values

ROWS = {"ord": ((2, 8, 4), (1, 9, 3)), "cus": ((1, 5), (2, 5)), "item": ((9, 7), (8, 7))}
IDLERS = Query(SHOP, "count", IDLE)
FREE = Schema({"a": ("x", "y"), "b": ("x", "y"), "c": ("x", "y", "z")})


def one_clause(form, clause, schema=FREE):
    return Query(schema, form, clause)


def grid(wide, high):
    """Rows of a and of b, all of whose pairs match."""
    return {"a": tuple([(x, 0) for x in range(wide)]), "b": tuple([(0, y) for y in range(high)])}


PAIRS = Clause((("a", ("p", "q")), ("b", ("r", "s"))))


class MatchesTest(unittest.TestCase):
    def test_constant(self):
        self.assertEqual(matching.MAX_MATCHES, 2000)

    def test_matches_are_dicts_of_the_variables(self):
        found = list(matches(TOWNS, 0, ROWS))
        self.assertEqual(found, [{"c": 1, "i": 9, "n": 3, "t": 5}, {"c": 2, "i": 8, "n": 4, "t": 5}])
        self.assertEqual([list(match) for match in found], [["c", "i", "n", "t"]] * 2)
        self.assertEqual(list(matches(TOWNS, 0, DAY.rows)), found[:1])

    def test_order(self):
        query = one_clause("count", Clause((("a", ("z", "b")),)))
        rows = {"a": ((1, 9), (2, -9), (3, 0), (-1, 9))}
        told = [{"b": -9, "z": 2}, {"b": 0, "z": 3}, {"b": 9, "z": -1}, {"b": 9, "z": 1}]
        self.assertEqual(list(matches(query, 0, rows)), told)
        self.assertEqual(list(open_matches(query, 0, rows)), told)
        self.assertEqual([list(match) for match in matches(query, 0, rows)], [["b", "z"]] * 4)

    def test_rows_in_any_order_and_tables_that_are_missing(self):
        turned = {table: ROWS[table][::-1] for table in ("item", "ord", "cus")}
        self.assertEqual(list(matches(TOWNS, 0, turned)), list(matches(TOWNS, 0, ROWS)))
        self.assertEqual(list(matches(TOWNS, 0, {"cus": ROWS["cus"], "ord": ROWS["ord"]})), [])
        self.assertEqual(list(matches(TOWNS, 0, {})), [])
        self.assertEqual(len(list(matches(IDLERS, 0, {"cus": ROWS["cus"], "item": ROWS["item"]}))), 4)

    def test_rows_that_break_constraints(self):
        rows = {"cus": ((1, 5), (1, 6)), "item": ((9, 7), (9, 8)), "ord": ((1, 9, 3), (1, 8, 3))}
        self.assertEqual(list(matches(TOWNS, 0, rows)),
                         [{"c": 1, "i": 9, "n": 3, "t": 5}, {"c": 1, "i": 9, "n": 3, "t": 6}])
        self.assertEqual(answer_on(PRICES, rows), Answer("count", {(7,): 1, (8,): 1}))

    def test_repeated_variables_and_integers(self):
        rows = {"a": ((1, 1), (1, 2), (2, 2)), "b": ((2, 1), (1, 1))}
        for clause, told in (
                (Clause((("a", ("x", "x")),)), [{"x": 1}, {"x": 2}]),
                (Clause((("a", ("x", 2)),)), [{"x": 1}, {"x": 2}]),
                (Clause((("a", (1, 2)),)), [{}]),
                (Clause((("a", (2, 1)),)), []),
                (Clause((("a", ("x", "y")), ("b", ("y", "x")))), [{"x": 1, "y": 1}, {"x": 1, "y": 2}]),
                (Clause((("a", ("x", "y")), ("a", ("x", "y")))), [
                    {"x": 1, "y": 1}, {"x": 1, "y": 2}, {"x": 2, "y": 2}])):
            self.assertEqual(list(matches(one_clause("count", clause), 0, rows)), told, clause.parts)

    def test_order_where_variables_are_equal(self):
        rows = {"c": ((2, 0, 0), (1, 1, 1)), "a": ((5, 0), (6, 1))}
        for tests in ((("u", "=", "w"),), (("w", "=", "u"),)):
            query = one_clause("count", Clause((("c", ("y", "w", "u")), ("a", ("z", "v"))), tests=tests))
            told = [tuple(match.items()) for match in open_matches(query, 0, rows)]
            self.assertEqual([[number for _, number in items] for items in told],
                             [[0, 0, 0, 2, 5], [0, 1, 0, 2, 6], [1, 0, 1, 1, 5], [1, 1, 1, 1, 6]])
            self.assertEqual([[name for name, _ in items] for items in told], [["u", "v", "w", "y", "z"]] * 4)

    def test_tests(self):
        rows = {"a": ((1, 1), (1, 2), (2, 1), (3, 3))}
        for tests, told in (
                ((("x", "=", "y"),), [(1, 1), (3, 3)]), ((("x", "!=", "y"),), [(1, 2), (2, 1)]),
                ((("x", "=", 1),), [(1, 1), (1, 2)]), (((1, "!=", "y"),), [(1, 2), (3, 3)]),
                (((1, "=", 1),), [(1, 1), (1, 2), (2, 1), (3, 3)]), (((1, "!=", 1),), []), (((1, "=", 2),), []),
                ((("x", "=", "x"), ("x", "!=", 1), (2, "!=", "x")), [(3, 3)]), ((("x", "!=", "x"),), [])):
            query = one_clause("count", Clause((("a", ("x", "y")),), tests=tests))
            found = [(match["x"], match["y"]) for match in matches(query, 0, rows)]
            self.assertEqual(found, told, tests)

    def test_absences(self):
        every = [(1, 1), (1, 3), (2, 2), (4, 4)]
        rows = {"a": tuple(every), "c": ((1, 1, 5), (1, 3, 6), (2, 1, 7), (4, 4, 4))}
        for terms, told in (
                (("x", "y", "f"), [(2, 2)]), (("x", "f", "g"), []), (("f", "y", "g"), [(2, 2)]), (("f", "g", "h"), []),
                ((2, "x", "f"), every[2:]), (("x", "x", "x"), every[:3]), (("f", "g", 9), every),
                (("y", "f", 5), every[1:]), ((1, 1, "x"), every), ((1, 1, 5), []), ((1, 1, 6), every)):
            query = one_clause("count", Clause((("a", ("x", "y")),), absences=(("c", terms),)))
            found = [(match["x"], match["y"]) for match in matches(query, 0, rows)]
            self.assertEqual(found, told, terms)
            self.assertEqual(len(list(open_matches(query, 0, rows))), 4)

    def test_free_variables_of_two_absences_are_their_own(self):
        clause = Clause((("a", ("x", "y")),), absences=(("b", ("x", "f")), ("c", ("y", "f", "g"))))
        query = one_clause("count", clause)
        rows = {"a": ((1, 1), (2, 2), (3, 3)), "b": ((1, 7),), "c": ((2, 8, 8),)}
        self.assertEqual(list(matches(query, 0, rows)), [{"x": 3, "y": 3}])
        self.assertEqual(len(list(open_matches(query, 0, rows))), 3)

    def test_each_clause(self):
        query = Query(SHOP, "count", *PRICES, Clause((("cus", ("c", "t")),), head=("t",)))
        self.assertEqual(list(matches(query, 1, DAY.rows)), [{"c": 1, "t": 5}])
        self.assertEqual(list(open_matches(query, 0, DAY.rows)), [{"i": 9, "p": 7}])

    def test_what_is_returned_can_be_changed(self):
        for call in (matches, open_matches):
            found = []
            for match in call(TOWNS, 0, ROWS):
                found.append(dict(match))
                match.clear()
            self.assertEqual(found, list(call(TOWNS, 0, ROWS)))
        told = []
        for index, match in witnesses(TOWNS, ROWS, (5,)):
            told.append((index, dict(match)))
            match["c"] = 99
        self.assertEqual(told, list(witnesses(TOWNS, ROWS, (5,))))

    def test_rows_stay_as_they_are(self):
        rows = dict(ROWS)
        list(matches(TOWNS, 0, rows))
        answer_on(TOWNS, rows)
        list(witnesses(TOWNS, rows, (5,)))
        self.assertEqual(rows, ROWS)
        self.assertEqual(list(rows), list(ROWS))


class IsMatchTest(unittest.TestCase):
    def test_matches(self):
        self.assertIs(is_match(TOWNS, 0, ROWS, {"c": 1, "i": 9, "n": 3, "t": 5}), True)
        self.assertIs(is_match(TOWNS, 0, ROWS, {"t": 5, "n": 3, "i": 9, "c": 1}), True)
        for value in ({"c": 1, "i": 9, "n": 3, "t": 6}, {"c": True, "i": 9, "n": 3, "t": 5}, {"c": 1, "i": 9, "n": 3},
                      {"c": 1, "i": 9, "n": 3, "t": 5, "x": 0}, {"c": 1, "i": 8, "n": 3, "t": 5}, {}, (1, 9, 3, 5),
                      {"c": 1, "i": 9, "n": 3, "x": 5}, {"c": "1", "i": 9, "n": 3, "t": 5}, {"c": [], "i": 9, "n": 3, "t": 5},
                      {"c": 1, "i": 9, "n": 3, "t": SIXTY_ONE}, *odd_values()):
            self.assertIs(is_match(TOWNS, 0, ROWS, value), False, value)

    def test_tests_and_absences(self):
        idle = {"c": 1, "i": 8, "p": 7, "t": 5}
        self.assertIs(is_match(IDLERS, 0, ROWS, idle), True)
        self.assertIs(is_match(IDLERS, 0, ROWS, {**idle, "i": 9}), False)
        query = one_clause("count", Clause((("a", ("x", "y")),), tests=(("x", "!=", "y"),)))
        rows = {"a": ((1, 1), (1, 2))}
        self.assertEqual([is_match(query, 0, rows, {"x": 1, "y": y}) for y in (1, 2, 3)], [False, True, False])

    def test_no_variables(self):
        query = one_clause("count", Clause((("a", (1, 2)),)))
        self.assertEqual([is_match(query, 0, {"a": ((1, 2),)}, value) for value in ({}, (), None, {"x": 1})],
                         [True, False, False, False])
        self.assertIs(is_match(query, 0, {"a": ((2, 2),)}, {}), False)


class HeadsAndRowsTest(unittest.TestCase):
    def test_match_head(self):
        self.assertEqual(match_head(TOWNS, 0, {"c": 1, "i": 2, "n": 3, "t": 4}), (4,))
        query = one_clause("count", Clause((("a", ("x", "y")),), tests=(("x", "=", 9),), head=("y", "x", "y")))
        self.assertEqual(match_head(query, 0, {"x": -SIXTY, "y": SIXTY}), (SIXTY, -SIXTY, SIXTY))
        self.assertEqual(match_head(one_clause("count", Clause((("a", (1, "x")),))), 0, {"x": 3}), ())

    def test_match_rows(self):
        clause = Clause((("b", ("x", 3)), ("a", ("x", "y")), ("a", ("y", "x"))), tests=(("x", "!=", "x"),),
                        absences=(("c", ("x", "f", "g")),))
        query = one_clause("count", clause)
        self.assertEqual(match_rows(query, 0, {"x": 2, "y": 1}), (("a", (1, 2)), ("a", (2, 1)), ("b", (2, 3))))
        self.assertEqual(match_rows(query, 0, {"x": 2, "y": 2}), (("a", (2, 2)), ("b", (2, 3))))

    def test_values_that_are_no_matches(self):
        wrong = ({"c": 1, "i": 9, "n": 3}, {"c": 1, "i": 9, "n": 3, "t": True}, {"c": 1, "i": 9, "n": 3, "t": SIXTY_ONE},
                 {"c": 1, "i": 9, "n": 3, "t": 5, "x": 1}, {"c": 1, "i": 9, "n": 3, "x": 5}, {}, (1, 9, 3, 5), "cint",
                 {"c": 1, "i": 9, "n": 3, "t": None}, {"c": 1, "i": 9, "n": 3, "t": "t"}, *odd_values())
        for match in wrong:
            for call in (match_head, match_rows):
                with self.assertRaises(InvalidOperation):
                    call(TOWNS, 0, match)
            with self.assertRaises(InvalidOperation):
                blocking_rows(TOWNS, 0, ROWS, match)


class BlockingTest(unittest.TestCase):
    def test_blocking_rows(self):
        rows = {"cus": ((1, 5),), "item": ((9, 7),), "ord": ((1, 9, 3), (1, 8, 4), (1, 9, 1), (2, 9, 5))}
        match = {"c": 1, "i": 9, "p": 7, "t": 5}
        self.assertEqual(blocking_rows(IDLERS, 0, rows, match), (("ord", (1, 9, 1)), ("ord", (1, 9, 3))))
        self.assertEqual(blocking_rows(IDLERS, 0, {**rows, "ord": ((1, 8, 4),)}, match), ())
        self.assertEqual(blocking_rows(TOWNS, 0, ROWS, {"c": 1, "i": 9, "n": 3, "t": 5}), ())

    def test_rows_of_two_absences_are_told_once(self):
        clause = Clause((("a", ("x", "y")),), absences=(("c", ("x", "f", "g")), ("c", ("f", "y", "h"))))
        rows = {"a": ((1, 2),), "c": ((3, 2, 0), (1, 2, 0), (1, 4, 0), (2, 1, 0))}
        self.assertEqual(blocking_rows(one_clause("count", clause), 0, rows, {"x": 1, "y": 2}),
                         (("c", (1, 2, 0)), ("c", (1, 4, 0)), ("c", (3, 2, 0))))

    def test_rows_of_two_tables(self):
        clause = Clause((("a", ("x", "y")),), absences=(("c", ("x", 5, "g")), ("b", ("f", "y"))))
        rows = {"a": ((1, 2),), "c": ((1, 5, 0), (1, 4, 0)), "b": ((7, 2), (2, 7))}
        self.assertEqual(blocking_rows(one_clause("count", clause), 0, rows, {"x": 1, "y": 2}),
                         (("b", (7, 2)), ("c", (1, 5, 0))))

    def test_no_open_match(self):
        for match in ({"c": 1, "i": 9, "p": 7, "t": 6}, {"c": 1, "i": 9, "p": 8, "t": 5}, {"c": 3, "i": 9, "p": 7, "t": 5}):
            with self.assertRaises(InvalidOperation):
                blocking_rows(IDLERS, 0, ROWS, match)
        tested = one_clause("count", Clause((("a", ("x", "y")),), tests=(("x", "!=", "y"),)))
        self.assertEqual(blocking_rows(tested, 0, {"a": ((1, 2),)}, {"x": 1, "y": 2}), ())
        with self.assertRaises(InvalidOperation):
            blocking_rows(tested, 0, {"a": ((1, 1),)}, {"x": 1, "y": 1})


class WitnessesTest(unittest.TestCase):
    def test_all_clauses(self):
        one = Clause((("a", ("x", "y")),), head=("y",))
        other = Clause((("b", ("p", "q")),), head=("p",))
        query = Query(FREE, "count", one, other, one)
        rows = {"a": ((2, 5), (1, 5), (1, 6)), "b": ((5, 1), (5, 0), (6, 6))}
        ones = [{"x": 1, "y": 5}, {"x": 2, "y": 5}]
        told = [(0, ones[0]), (0, ones[1]), (1, {"p": 5, "q": 0}), (1, {"p": 5, "q": 1}), (2, ones[0]), (2, ones[1])]
        self.assertEqual(list(witnesses(query, rows, (5,))), told)
        self.assertEqual(list(witnesses(query, rows, (7,))), [])

    def test_absences_count(self):
        self.assertEqual(list(witnesses(IDLERS, ROWS, (1,))), [(0, {"c": 1, "i": 8, "p": 7, "t": 5})])

    def test_values_that_are_no_heads(self):
        for head in ((), (1, 2), (True,), ("t",), [5], 5, None, (SIXTY_ONE,), ((5,),), *odd_values()):
            with self.assertRaises(InvalidOperation):
                next(witnesses(TOWNS, ROWS, head))
        self.assertEqual(list(witnesses(TOWNS, ROWS, (SIXTY,))), [])


class AnswersTest(unittest.TestCase):
    def test_distinct(self):
        clause = Clause((("a", ("x", "y")),), head=("y",))
        query = Query(FREE, "distinct", clause, Clause((("b", ("x", "y")),), head=("x",)))
        rows = {"a": ((1, 5), (2, 5), (3, 6)), "b": ((5, 5), (7, 7))}
        self.assertEqual(answer_on(query, rows), Answer.of_heads(((5,), (6,), (7,))))

    def test_count(self):
        clause = Clause((("a", ("x", "y")),), head=("y",))
        query = Query(FREE, "count", clause, Clause((("b", ("x", "y")),), head=("x",)), clause)
        rows = {"a": ((1, 5), (2, 5), (3, 6)), "b": ((5, 5), (7, 7))}
        self.assertEqual(answer_on(query, rows), Answer("count", {(5,): 5, (6,): 2, (7,): 1}))
        self.assertEqual(answer_on(query, {}), Answer("count"))
        self.assertEqual(answer_on(Query(FREE, "count", PAIRS), grid(3, 4)), Answer("count", {(): 12}))

    def test_sum(self):
        clause = Clause((("a", ("x", "y")),), head=("y",), summed="x")
        other = Clause((("b", ("x", "y")),), head=("x",), summed=-4)
        query = Query(FREE, "sum", clause, other)
        rows = {"a": ((1, 5), (3, 5), (-2, 6), (2, 6), (9, 7)), "b": ((5, 1), (8, 0), (8, 1))}
        self.assertEqual(answer_on(query, rows), Answer("sum", {(7,): 9, (8,): -8}))

    def test_sums_that_even_out(self):
        clause = Clause((("a", ("x", "y")),), summed="x")
        self.assertEqual(answer_on(one_clause("sum", clause), {"a": ((3, 1), (-3, 1))}), Answer("sum"))
        nought = Clause((("a", ("x", "y")),), head=("x",), summed=0)
        self.assertEqual(answer_on(one_clause("sum", nought), {"a": ((3, 1),)}), Answer("sum"))

    def test_large_sums(self):
        clause = Clause((("a", ("x", "y")),), summed="x")
        rows = {"a": ((SIXTY, 1), (SIXTY, 2))}
        self.assertEqual(answer_on(one_clause("sum", clause), rows)[()], 2 * SIXTY)

    def test_equal_integers_of_rows_and_variables(self):
        clause = Clause((("a", ("x", "y")),), head=("x",), summed="x")
        self.assertEqual(answer_on(one_clause("sum", clause), {"a": ((4, 1), (4, 2))}), Answer("sum", {(4,): 8}))


class ErrorsTest(unittest.TestCase):
    def calls(self):
        """The calls of all functions, by their query, their index, their rows and their last argument."""
        return (
            (lambda query, index, rows, last: next(matches(query, index, rows), None), "query index rows"),
            (lambda query, index, rows, last: next(open_matches(query, index, rows), None), "query index rows"),
            (lambda query, index, rows, last: is_match(query, index, rows, last), "query index rows"),
            (lambda query, index, rows, last: match_head(query, index, last), "query index last"),
            (lambda query, index, rows, last: match_rows(query, index, last), "query index last"),
            (lambda query, index, rows, last: blocking_rows(query, index, rows, last), "query index rows last"),
            (lambda query, index, rows, last: next(witnesses(query, rows, last), None), "query rows last"),
            (lambda query, index, rows, last: answer_on(query, rows), "query rows"))

    def test_no_query(self):
        for value in (*odd_values(), SHOP, TOWNS.clauses, None):
            if value is not TOWNS:
                for call, _ in self.calls():
                    with self.assertRaises(InvalidQuery):
                        call(value, 7, 7, 7)

    def test_no_index(self):
        for index in (-1, 1, 2, True, False, None, "0", (0,), 10 ** 60, *odd_values()):
            for call, used in self.calls():
                if "index" in used:
                    with self.assertRaises(InvalidNumber) as caught:
                        call(TOWNS, index, 7, 7)
                    self.assertIs(caught.exception.value, index)

    def test_no_rows(self):
        many = {"cus": tuple([(code, 0) for code in range(101)])}
        wrong = ({"cus": ((1, 5), (1, 5))}, {"x": ()}, {"cus": [(1, 5)]}, {"cus": ((True, 5),)}, many, None, DAY)
        for rows in (*wrong, *odd_values()):
            for call, used in self.calls():
                if "rows" in used:
                    with self.assertRaises(InvalidRow):
                        call(TOWNS, 0, rows, 7)
        fits = {"cus": many["cus"][:100]}
        self.assertEqual(list(matches(TOWNS, 0, fits)), [])
        self.assertEqual(answer_on(TOWNS, {"cus": many["cus"][:60], "item": many["cus"][:40]}), Answer("distinct"))
        with self.assertRaises(InvalidRow):
            answer_on(TOWNS, {"cus": many["cus"][:60], "item": many["cus"][:41]})

    def test_generators_raise_their_errors_with_the_first_result(self):
        for made in (matches(1, 2, 3), open_matches(1, 2, 3), witnesses(1, 2, 3)):
            with self.assertRaises(InvalidQuery):
                next(made)
        for made in (matches(TOWNS, 2, 3), open_matches(TOWNS, 2, 3)):
            with self.assertRaises(InvalidNumber):
                next(made)
        for made in (matches(TOWNS, 0, 3), open_matches(TOWNS, 0, 3), witnesses(TOWNS, 3, 4)):
            with self.assertRaises(InvalidRow):
                next(made)


class LimitTest(unittest.TestCase):
    query = Query(FREE, "count", PAIRS)
    match = {"p": 0, "q": 0, "r": 0, "s": 0}

    def test_2000_open_matches(self):
        rows = grid(40, 50)
        self.assertEqual(len(list(matches(self.query, 0, rows))), 2000)
        self.assertEqual(len(list(open_matches(self.query, 0, rows))), 2000)
        self.assertIs(is_match(self.query, 0, rows, self.match), True)
        self.assertEqual(blocking_rows(self.query, 0, rows, self.match), ())
        self.assertEqual(len(list(witnesses(self.query, rows, ()))), 2000)
        self.assertEqual(answer_on(self.query, rows)[()], 2000)

    def test_2001_open_matches(self):
        # 29 * 69 = 2001.
        rows = grid(29, 69)
        for call in (lambda: next(matches(self.query, 0, rows)), lambda: next(open_matches(self.query, 0, rows)),
                     lambda: is_match(self.query, 0, rows, self.match), lambda: is_match(self.query, 0, rows, None),
                     lambda: blocking_rows(self.query, 0, rows, self.match),
                     lambda: next(witnesses(self.query, rows, ())), lambda: answer_on(self.query, rows)):
            with self.assertRaises(TooMany) as caught:
                call()
            self.assertEqual(caught.exception.limit, 2000)

    def test_it_comes_last(self):
        rows = grid(29, 69)
        with self.assertRaises(InvalidOperation):
            blocking_rows(self.query, 0, rows, None)
        with self.assertRaises(InvalidOperation):
            blocking_rows(self.query, 0, rows, {**self.match, "p": 99})
        with self.assertRaises(InvalidOperation):
            next(witnesses(self.query, rows, (1,)))
        with self.assertRaises(InvalidNumber):
            next(matches(self.query, 1, rows))

    def test_open_matches_count_and_not_matches(self):
        blocked = Query(FREE, "count", PAIRS.with_absence("c", ("p", "f", "g")))
        rows = {"a": grid(50, 0)["a"], "b": grid(0, 41)["b"], "c": ((0, 0, 0),)}
        with self.assertRaises(TooMany):
            answer_on(blocked, rows)
        rows["b"] = rows["b"][:40]
        self.assertEqual(answer_on(blocked, rows)[()], 1960)

    def test_any_clause_counts_for_witnesses_and_answers(self):
        small = Clause((("a", ("p", "q")),))
        query = Query(FREE, "count", small, PAIRS)
        rows = grid(29, 69)
        self.assertEqual(len(list(matches(query, 0, rows))), 29)
        with self.assertRaises(TooMany):
            next(witnesses(query, rows, ()))
        with self.assertRaises(TooMany):
            answer_on(query, rows)

    def test_tests_count(self):
        query = Query(FREE, "count", PAIRS.with_tests(("p", "!=", 28)))
        self.assertEqual(answer_on(query, grid(29, 69))[()], 28 * 69)

    def test_three_parts_over_many_rows(self):
        clause = Clause((("a", ("p", "q")), ("a", ("r", "s")), ("a", ("t", "u"))))
        rows = {"a": tuple([(x, 0) for x in range(100)])}
        with self.assertRaises(TooMany):
            answer_on(Query(FREE, "count", clause), rows)
        joined = clause.with_tests(("p", "=", "r"), ("r", "=", "t"))
        self.assertEqual(answer_on(Query(FREE, "count", joined), rows)[()], 100)


class ManyMatchesTest(unittest.TestCase):
    """How many open matches there are is told alike, whether they are listed or only counted."""

    NODES = Schema({"e": ("a", "b"), "n": ("a",)})
    EDGES = (("e", ("x", "y")), ("e", ("z", "w")), ("e", ("u", "v")))

    def check(self, clause, rows, many, **known):
        """Check all functions where a clause has so many open matches, None for more than 2000, in one of them these."""
        query = Query(self.NODES, "count", clause)
        some = {name: known.get(name, 4) for name in clause.variables}
        calls = (lambda: len(list(matches(query, 0, rows))), lambda: len(list(open_matches(query, 0, rows))),
                 lambda: sum(number for _, number in answer_on(query, rows).pairs()), lambda: is_match(query, 0, rows, some),
                 lambda: blocking_rows(query, 0, rows, some), lambda: list(witnesses(query, rows, (4,) * query.width)))
        for call in calls:
            if many is None:
                with self.assertRaises(TooMany) as caught:
                    call()
                self.assertEqual(caught.exception.limit, 2000)
        if many is not None:
            opened = list(open_matches(query, 0, rows))
            integers = [tuple(match.values()) for match in opened]
            self.assertEqual([list(match) for match in opened], [list(clause.variables)] * many)
            self.assertEqual(integers, sorted(set(integers)))
            self.assertEqual(list(matches(query, 0, rows)), opened)
            self.assertEqual([call() for call in calls[:3]], [many] * 3)
            told = [(0, match) for match in opened if all(match[name] == 4 for name in clause.head)]
            self.assertEqual(calls[5](), told)

    def edges(self, many):
        return {"e": tuple([(at, 4) for at in range(many)])}

    def test_three_parts(self):
        for head in ((), ("x",), ("w", "z", "x")):
            clause = Clause(self.EDGES, head=head)
            self.check(clause, self.edges(12), 1728)
            self.check(clause, self.edges(13), None)
        query = Query(self.NODES, "count", Clause(self.EDGES, head=("x",)))
        self.assertEqual(answer_on(query, self.edges(12)), Answer("count", {(at,): 144 for at in range(12)}))

    def test_exactly_2000(self):
        parts = (("e", ("x", "y")), ("n", ("z",)), ("n", ("w",)))
        rows = {**self.edges(20), "n": tuple([(at,) for at in range(10)])}
        self.check(Clause(parts), rows, 2000)
        self.check(Clause(parts, head=("z",)), rows, 2000)
        self.check(Clause(parts), {**rows, "e": (*rows["e"], (50, 4))}, None)

    def test_2001(self):
        # 29 * 69 = 2001; the last of the rows of n is another one.
        parts = (("e", ("x", "y")), ("n", ("z",)))
        rows = {**self.edges(29), "n": tuple([(at,) for at in range(69)])}
        self.check(Clause(parts), rows, None)
        self.check(Clause(parts, tests=(("z", "!=", 68),)), rows, 29 * 68)
        self.check(Clause(parts, tests=(("z", "=", 8),), head=("y", "z")), rows, 29)

    def test_parts_that_share_variables(self):
        # Rows with the same second column match one another: 44 * 44 + 8 * 8 = 2000.
        parts = (("e", ("x", "y")), ("e", ("z", "y")))
        rows = {"e": (*[(at, 4) for at in range(44)], *[(at, 5) for at in range(8)])}
        self.check(Clause(parts), rows, 2000)
        self.check(Clause(parts, head=("z",)), rows, 2000)
        self.check(Clause(parts), {"e": (*rows["e"], (0, 6))}, None)
        apart = (("e", ("x", "y")), ("e", ("z", "a")))
        self.check(Clause(apart, tests=(("a", "=", "y"),), head=("a",)), rows, 2000)
        self.check(Clause(apart, tests=(("y", "=", "a"),)), {"e": (*rows["e"], (0, 6))}, None)

    def test_tests_between_parts(self):
        # 45 * 45 - 25 = 2000 pairs of rows with different first columns, five of which are there five times.
        parts = (("e", ("x", "y")), ("n", ("z",)))
        rows = {**self.edges(45), "n": tuple([(at,) for at in range(20, 65)])}
        self.check(Clause(parts, tests=(("x", "!=", "z"),)), rows, 2000)
        self.check(Clause(parts, tests=(("z", "!=", "x"),), head=("x", "z")), rows, 2000)
        rows = {**self.edges(45), "n": tuple([(at,) for at in range(21, 66)])}
        self.check(Clause(parts, tests=(("x", "!=", "z"),)), rows, None, z=30)

    def test_millions(self):
        rows = self.edges(100)
        self.check(Clause(self.EDGES), rows, None)
        self.check(Clause(self.EDGES, tests=(("x", "!=", "u"),)), rows, None, u=5)
        self.check(Clause(self.EDGES, tests=(("x", "=", "u"), ("u", "=", "z"))), rows, 100)
        self.check(Clause(self.EDGES, tests=(("y", "!=", "v"),)), rows, 0)

    def test_what_is_returned_is_not_kept(self):
        clause = Clause((("e", ("x", "y")), ("n", ("z",))), tests=(("x", "=", 1), ("y", "=", 2), ("z", "=", "y")))
        query = Query(self.NODES, "count", clause)
        rows = {"e": ((1, 2),), "n": ((2,),)}
        for call in (matches, open_matches):
            for _ in range(2):
                found = list(call(query, 0, rows))
                self.assertEqual(found, [{"x": 1, "y": 2, "z": 2}])
                found[0]["x"] = 7
        self.assertEqual(list(matches(query, 0, {"e": ((1, 3),), "n": ((2,),)})), [])
        self.assertEqual(list(matches(query, 0, rows)), [{"x": 1, "y": 2, "z": 2}])
        rows["e"] = ((1, 2), (2, 2))
        self.assertEqual(answer_on(query, rows), Answer("count", {(): 1}))


def told_by_definition(clause, rows, with_absences):
    """The matches of a clause, by trying all integers of the rows, as [0.13] tells."""
    numbers = sorted({number for table in rows for row in rows[table] for number in row})
    found = []
    for values in itertools.product(numbers, repeat=len(clause.variables)):
        match = dict(zip(clause.variables, values))
        held = [match.get(one, one) == match.get(other, other) if word == "=" else
                match.get(one, one) != match.get(other, other) for one, word, other in clause.tests]
        there = [tuple(match.get(term, term) for term in terms) in rows.get(table, ()) for table, terms in clause.parts]
        blocked = [tuple(all(isinstance(term, str) and term not in match or match.get(term, term) == number
                             for term, number in zip(terms, row)) for row in rows.get(table, ()))
                   for table, terms in clause.absences]
        if all(held) and all(there) and not (with_absences and any(any(rows_) for rows_ in blocked)):
            found.append(match)
    return found


class DefinitionTest(unittest.TestCase):
    def some_rows(self, source, numbers, most):
        return {table: tuple({tuple(source.randrange(numbers) for _ in columns) for _ in range(source.randrange(most))})
                for table, columns in FREE.tables.items()}

    def some_clause(self, source):
        names = "xyz"[:source.randrange(1, 4)]
        parts = tuple((table, tuple(source.choice([*names, *names, source.randrange(2)]) for _ in range(2)))
                      for table in source.choices("ab", k=source.randrange(1, 4)))
        known = sorted({term for _, terms in parts for term in terms if isinstance(term, str)})
        terms = [*known, 0, 1]
        tests = tuple((source.choice(terms), source.choice(("=", "!=", "!=")), source.choice(terms))
                      for _ in range(source.randrange(3)))
        absences = tuple(("c", tuple(source.choice([*terms, free]) for free in "fgh")) for _ in range(source.randrange(3)))
        head = tuple(source.choice(known) for _ in range(2)) if known else ()
        return Clause(parts, tests=tests, absences=absences, head=head, summed=source.choice(terms))

    def test_matches_by_definition(self):
        source = random.Random(5)
        # Few rows and many rows are matched in two ways.
        for at in range(600):
            clause = self.some_clause(source)
            rows = self.some_rows(source, 3, 6) if at < 400 else self.some_rows(source, 5, 18)
            query = Query(FREE, "sum", clause)
            opened, kept = (told_by_definition(clause, rows, wanted) for wanted in (False, True))
            self.assertEqual(list(open_matches(query, 0, rows)), opened)
            self.assertEqual(list(matches(query, 0, rows)), kept)
            self.assertTrue(all(is_match(query, 0, rows, match) == (match in kept) for match in opened))
            for match in opened:
                self.assertEqual(blocking_rows(query, 0, rows, match) == (), match in kept)
                self.assertTrue(all(row in rows[table] for table, row in match_rows(query, 0, match)))
            sums = {}
            for match in kept:
                head = match_head(query, 0, match)
                sums[head] = sums.get(head, 0) + match.get(clause.summed, clause.summed)
            told = {head: number for head, number in sums.items() if number != 0}
            self.assertEqual(answer_on(query, rows), Answer("sum", told))
            for head in sums:
                self.assertEqual(list(witnesses(query, rows, head)),
                                 [(0, match) for match in kept if match_head(query, 0, match) == head])


class ExampleTest(unittest.TestCase):
    def test_example(self):
        self.assertEqual(
            [answer_on(TOWNS, ROWS).pairs(), match_rows(TOWNS, 0, {"c": 0, "i": 0, "n": 1, "t": 2})],
            [(((5,), 1),), (("cus", (0, 2)), ("item", (0, 7)), ("ord", (0, 0, 1)))])


if __name__ == "__main__":
    unittest.main()
