"""[9.1] to [9.4], counted before any small case is made, and limits of queries that are asked many times."""

import itertools
import random
import unittest

from dealtrows.ask.queries import Clause, Query
from dealtrows.base.schemas import Schema
from dealtrows.deal.placements import Placement
from dealtrows.decide.layouts import LAYOUTS_BY_NODES, all_layouts
from dealtrows.decide.patterns import drafts_of, pattern_with, patterns
from dealtrows.decide.smallcases import MAX_PLACES, is_small_case, layouts, small_cases, ties
from dealtrows.decide.surveys import Survey
from dealtrows.decide.verdicts import certificate_of, decision, is_right_for
from dealtrows.errors import InvalidOperation, TooMany
import naive
from drawn import SCHEMAS, drawn_placement, drawn_query
from samples import FAR, NEAR, PRICES, SHOP, TOWNS, told_error

ALL, FIRST, ANY = ("all",), ("first",), ("any",)


def by(name, *columns):
    return ("by", name, columns)


def pattern_facts(pattern):
    return (pattern.clause, tuple(pattern.match.items()), pattern.database.pairs())


def naive_tallies(placement, query, most):
    """The numbers of places and of choices by patterns, or None for more choices in all."""
    found = {}
    choices = list(itertools.islice(naive.choices_of(placement, query), most + 1))
    for pattern, layout, _, _ in choices:
        _, many = found.get(pattern_facts(pattern), (0, 0))
        found[pattern_facts(pattern)] = (len(layout), many + 1)
    return None if len(choices) > most else found


class LayoutsTest(unittest.TestCase):
    def test_numbers_of_layouts(self):
        places = tuple(("by", "s", (number,)) for number in range(MAX_PLACES))
        self.assertEqual(len(LAYOUTS_BY_NODES), MAX_PLACES + 1)
        for many, told in enumerate(LAYOUTS_BY_NODES):
            nodes = [len(set(layout)) for layout in all_layouts(places[:many])]
            self.assertEqual(tuple(nodes.count(number) for number in range(many + 1)), told)
            self.assertEqual(len(list(layouts(places[:many]))), sum(told))


class DrawnTest(unittest.TestCase):
    def cases(self, seed, many, absent, least=1):
        drawn = random.Random(seed)
        for _ in range(many):
            query = drawn_query(drawn, drawn.choice(SCHEMAS), absent)
            placement = drawn_placement(drawn, query, least)
            if told_error(lambda: next(patterns(query), None)) is None:
                yield placement, query

    def test_ties_of_patterns(self):
        seen = 0
        for placement, query in self.cases(1, 150, 2):
            kinds = Survey(placement, query).all_kinds
            for draft in [draft for draft in drafts_of(query) if draft is not None]:
                for values, used in draft.valuations():
                    told = [kinds[at].tie_with(numbers) for at, numbers in draft.ties_with(values)]
                    self.assertEqual(sorted(told), naive.ties_of(query, pattern_with(draft, values, used).database.rows))
                    seen += len(told) > 1
        self.assertGreater(seen, 250)

    def test_tallies(self):
        seen = {}
        for placement, query in [*self.cases(2, 120, 2), *self.cases(3, 60, 0)]:
            wanted = naive_tallies(placement, query, 1500)
            survey = Survey(placement, query)
            if wanted is not None and not naive.is_plain(query):
                for deal in survey.deals:
                    for values, used in deal.draft.valuations():
                        tally = deal.tally(values)
                        told = (tally[0], survey.many_choices(tally))
                        self.assertEqual(told, wanted[pattern_facts(pattern_with(deal.draft, values, used))])
                        seen[tally[1:]] = True
        # Many mixtures of given ties, ties with one row at most, and other ones.
        self.assertGreater(len(seen), 10)

    def test_limits(self):
        seen = []
        for placement, query in [*self.cases(4, 150, 2), *self.cases(5, 100, 0), *self.cases(6, 100, 0, 2)]:
            places = [len(naive.places_of(placement, query, pattern)[0]) for pattern in patterns(query)]
            told = told_error(is_small_case, placement, query, None)
            seen.append(told)
            if max(places, default=0) > MAX_PLACES:
                self.assertEqual(told, (TooMany, 6))
            else:
                survey = Survey(placement, query)
                many = sum(survey.many_choices(deal.tally(values)) for deal in survey.deals for values, _ in deal.draft.valuations())
                self.assertEqual(told, (TooMany, 2000) if (len(places) if naive.is_plain(query) else many) > 2000 else None)
        self.assertGreater(min(seen.count(told) for told in (None, (TooMany, 6), (TooMany, 2000))), 5)

    def test_ties_of_many_rows(self):
        drawn = random.Random(7)
        sizes = []
        for placement, query in self.cases(8, 150, 2):
            rows = {table: tuple({tuple(drawn.randint(-2, 9) for _ in query.schema.columns_of(table)) for _ in range(many)})
                    for table, many in zip(query.schema.tables, drawn.choices((1, 9, 20), k=len(query.schema)))}
            wanted = told_error(naive.ties_of, query, rows)
            if wanted is None:
                found = ties(placement, query, rows)
                self.assertEqual(found, tuple(naive.ties_of(query, rows)))
                sizes.append(len(found))
            else:
                self.assertEqual(told_error(ties, placement, query, rows), wanted)
        self.assertGreater(len([size for size in sizes if size > 5]), 10)


class PlacesTest(unittest.TestCase):
    """Places that are given by ties alone."""

    FREE = Schema({"r": ("x", "y"), "n": ("u", "v"), "m": ("u", "v")})

    def free(self, r, n, m=(ALL,)):
        return Placement(self.FREE, r=r, n=n, m=m)

    def test_a_pattern_of_fewer_values_has_more_places(self):
        # If the rows are (c, a) and (a, c), both a and c are asked for in n and in m: eight places instead of six.
        query = Query(self.FREE, "count", Clause(
            (("r", ("c", "b")), ("r", ("a", "c"))), absences=(("m", ("a", "f")), ("n", ("a", "f")))))
        rules = (ANY, by("t", "x"))
        self.assertEqual(told_error(is_small_case, self.free(rules, (by("u", "u"),), (by("w", "u"),)), query, None), (TooMany, 6))
        most = max(len(layout) for _, layout, _, _ in naive.choices_of(self.free((ANY,), (by("u", "u"),), (by("w", "u"),)), query))
        self.assertEqual(most, 6)
        self.assertNotEqual(told_error(is_small_case, self.free((ANY,), (by("u", "u"),), (by("w", "u"),)), query, None), (TooMany, 6))
        # Rows of n and m that lie on node 0 have one place together.
        self.assertEqual(told_error(is_small_case, self.free(rules, (FIRST,), (FIRST,)), query, None), (TooMany, 2000))

    def test_places_that_no_pattern_has_together(self):
        # Each of three places in the rows can be asked for in m, but only if two of them are one.
        query = Query(self.FREE, "count", Clause((("r", ("a", "a")), ("r", ("c", "a"))), absences=(("n", ("a", "f")), ("m", ("c", "f")))))
        placement = self.free((by("s", "x"), by("t", "y")), (by("u", "u"),), (by("w", "u"),))
        survey = Survey(placement, query)
        self.assertEqual(survey.deals[0].most_places, 7)
        self.assertEqual(max(len(naive.places_of(placement, query, pattern)[0]) for pattern in patterns(query)), 6)
        self.assertEqual(told_error(is_small_case, placement, query, None), (TooMany, 2000))
        few = self.free((by("s", "x"),), (by("u", "u"),), (by("w", "u"),))
        self.assertIs(is_small_case(few, query, None), False)
        self.assertEqual({naive.key_of(case) for case in small_cases(few, query)}, naive.small_case_keys(few, query))

    def test_given_places_that_rows_have_too(self):
        query = Query(self.FREE, "count", Clause((("r", ("a", "b")),), absences=(("n", ("a", "b")),)))
        for rules, places in (((by("s", "u"),), 1), ((by("s", "v"),), 2), ((by("t", "u"),), 2), ((FIRST,), 2), ((ALL,), 1)):
            placement = self.free((by("s", "x"),), rules)
            survey = Survey(placement, query)
            self.assertEqual(survey.deals[0].most_places, places)
            self.assertEqual({naive.key_of(case) for case in small_cases(placement, query)}, naive.small_case_keys(placement, query))

    def test_seven_places_of_a_later_clause(self):
        # The patterns of the first clause have too many cases already.
        many = Clause((("r", ("a", "b")), ("r", ("c", "d")), ("r", ("e", "e"))))
        tied = Clause((("r", ("c", "b")), ("r", ("a", "c"))), absences=(("m", ("a", "f")), ("n", ("a", "f"))))
        placement = self.free((ANY, by("t", "x")), (by("u", "u"),), (by("w", "u"),))
        self.assertEqual(told_error(is_small_case, placement, Query(self.FREE, "count", many), None), (TooMany, 2000))
        self.assertEqual(told_error(is_small_case, placement, Query(self.FREE, "count", many, tied), None), (TooMany, 6))


class AskedManyTimesTest(unittest.TestCase):
    """What is kept of a query is that of its last placement."""

    def keys(self, placement, query):
        return {naive.key_of(case) for case in small_cases(placement, query)}

    def again(self, query):
        return Query(query.schema, query.form, *query.clauses)

    def test_several_placements_one_after_another(self):
        query = self.again(TOWNS)
        equal = Placement.of(SHOP, FAR.rules)
        for placement in (NEAR, FAR, NEAR, equal, FAR, NEAR, NEAR):
            self.assertEqual(self.keys(placement, query), self.keys(placement, self.again(query)))
            self.assertEqual(is_right_for(placement, query), placement == NEAR)
            self.assertEqual(decision(placement, query)[0], "right" if placement == NEAR else "wrong")
            for case in small_cases(placement, query):
                self.assertIs(is_small_case(placement, query, case), True)
                self.assertIs(is_small_case(NEAR if placement == FAR else FAR, query, case), False)

    def test_limits_between_other_placements(self):
        schema = PlacesTest.FREE
        query = Query(schema, "count", Clause((("r", ("a", "b")), ("r", ("c", "d")), ("r", ("e", "e")))))
        few = Placement(schema, r=(ALL,), n=(ALL,), m=(ALL,))
        many = few.with_rules("r", by("s", "x"), by("t", "y"))
        lone = few.with_rules("r", ANY, by("w", "x", "y"))
        other = Placement(SHOP, **FAR.rules)
        two = Query(schema, "count", Clause((("r", ("a", "b")),), absences=(("n", ("a", "f")),)))
        for _ in range(3):
            self.assertEqual(told_error(is_small_case, many, query, None), (TooMany, 2000))
            self.assertEqual(told_error(lambda: next(small_cases(many, query))), (TooMany, 2000))
            self.assertIs(is_small_case(few, query, None), False)
            self.assertEqual(told_error(is_small_case, lone, query, None), (TooMany, 2000))
            self.assertEqual(told_error(is_small_case, other, query, None), (InvalidOperation,))
            self.assertEqual(told_error(is_small_case, few.with_rules("n", ANY, FIRST), two, None), (InvalidOperation,))
            self.assertIs(is_small_case(few, two, None), False)

    def test_small_cases_that_are_asked_for_at_the_same_time(self):
        query = self.again(PRICES)
        wanted = [self.keys(placement, self.again(query)) for placement in (NEAR, FAR, NEAR)]
        running = [small_cases(NEAR, query), small_cases(FAR, query), small_cases(NEAR, query)]
        found = [set(), set(), set()]
        for step in range(4):
            for told, cases in zip(found, running):
                told.add(naive.key_of(next(cases)))
                self.assertIs(is_small_case(FAR, query, None), False)
                certificate_of(NEAR if step % 2 else FAR, query)
        self.assertEqual(found, wanted)
        for cases in running:
            self.assertIsNone(next(cases, None))

    def test_too_large_clauses(self):
        wide = Query(PlacesTest.FREE, "count", Clause((("r", ("a", "b")), ("r", ("c", "d")), ("r", ("e", "g")))),
                     Clause((("r", (1, 2)),)))
        placement = Placement(PlacesTest.FREE, r=(ALL,), n=(ALL,), m=(ALL,))
        for _ in range(2):
            self.assertEqual(told_error(is_small_case, placement, wide, None), (TooMany, 7))
            self.assertEqual(told_error(lambda: next(patterns(wide))), (TooMany, 7))
            self.assertIs(is_small_case(placement, wide.only(1), None), False)


if __name__ == "__main__":
    unittest.main()
