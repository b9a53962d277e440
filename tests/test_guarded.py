"""[16.2], Guard and GuardedStore."""

import unittest

from dealtrows.ask.queries import Clause, Query
from dealtrows.base.schemas import Schema
from dealtrows.deal.cases import is_counterexample
from dealtrows.deal.placements import Placement
from dealtrows.decide.verdicts import is_certificate, is_right_for
from dealtrows.errors import InvalidNumber, InvalidOperation, InvalidPlacement, InvalidQuery, InvalidRule, NoNodes
from dealtrows.errors import NothingToUndo, Rejected, TooMany, UnknownName
from dealtrows.live import guarded
from dealtrows.live.guarded import Guard, GuardedStore
from dealtrows.live.store import Store
from samples import DAY, FAR, IDLE, NEAR, PRICES, SHOP, SIXTY_ONE, TOWNS, odd_but, odd_values, raised, told_error
from test_store import ALL, ANY, FIRST, FREE, free

WEIGHTS = {"s": (1,), "t": (3,)}
HEADS = Query(SHOP, "distinct", *PRICES)
EVERY = Query(SHOP, "distinct", Clause((("ord", ("c", "i", "n")),), head=("n",)))
WIDE = Schema({"t": ("a", "b", "c", "d")})
EIGHT = Query(WIDE, "distinct", Clause((("t", ("a", "b", "c", "d")), ("t", ("e", "f", "g", "h")))))
SEVEN = Query(WIDE, "count", Clause((("t", ("a", "b", "c", "d")), ("t", ("e", "f", "g", "a")))))


def guarded_shop(placement=NEAR, nodes=2):
    store = GuardedStore(placement, nodes=nodes, spreads=WEIGHTS)
    for table, row in DAY.pairs():
        store.add(table, row)
    return store


def state(store):
    return (store.case(), store.pledges, store.moves, store.spreads)


class GuardTest(unittest.TestCase):
    def test_certificates(self):
        for placement, query in ((NEAR, TOWNS), (FAR, PRICES), (NEAR, HEADS)):
            self.assertTrue(is_certificate(placement, query, Guard.check(placement, query)))
        self.assertTrue(is_certificate(NEAR, TOWNS, GuardedStore.check(NEAR, TOWNS)))
        self.assertTrue(is_certificate(NEAR, TOWNS, guarded_shop().check(NEAR, TOWNS)))

    def test_rejected(self):
        for placement, query in ((FAR, TOWNS), (NEAR, PRICES), (FAR, Query(SHOP, "count", IDLE))):
            error = raised(Guard.check, placement, query)
            self.assertIsInstance(error, Rejected)
            self.assertTrue(is_counterexample(placement, query, error.reason))

    def test_errors(self):
        for value in odd_but(Placement):
            self.assertEqual(told_error(Guard.check, value, None), (InvalidPlacement,))
        for value in odd_but(Query):
            self.assertEqual(told_error(Guard.check, NEAR, value), (InvalidQuery,))
        self.assertEqual(told_error(Guard.check, NEAR, EIGHT), (InvalidOperation,))
        self.assertEqual(told_error(Guard.check, Placement(WIDE, t=(ALL,)), EIGHT), (TooMany, 7))
        two = NEAR.with_rules("ord", ("with", "oc"), ANY)
        self.assertEqual(told_error(Guard.check, two, Query(SHOP, "count", IDLE)), (InvalidOperation,))


class ConstructorTest(unittest.TestCase):
    def test_it_is_a_store_and_a_guard(self):
        store = GuardedStore(NEAR, spreads=WEIGHTS)
        self.assertTrue(isinstance(store, Store) and isinstance(store, Guard))
        self.assertEqual([store.placement, store.nodes, store.spreads, store.pledges, len(store), store.moves],
                         [NEAR, 1, WEIGHTS, {}, 0, ()])
        self.assertEqual(told_error(store.undo), (NothingToUndo, 1))

    def test_errors(self):
        self.assertEqual(told_error(GuardedStore, None, nodes=0, spreads=1), (InvalidPlacement,))
        self.assertEqual(told_error(GuardedStore, NEAR, nodes=0, spreads=1), (NoNodes, 0))
        self.assertEqual(told_error(GuardedStore, NEAR, nodes=10, spreads=1), (InvalidNumber, 10))
        self.assertEqual(told_error(GuardedStore, NEAR), (InvalidOperation,))

    def test_constant(self):
        self.assertEqual(guarded.MAX_PLEDGES, 4)


class AskTest(unittest.TestCase):
    def test_right_queries(self):
        store = guarded_shop()
        self.assertEqual([store.ask(TOWNS).pairs(), store(HEADS).pairs()], [(((5,), 1),), (((7,), 1),)])

    def test_wrong_queries(self):
        store = guarded_shop()
        for call in (store.ask, store):
            error = raised(call, PRICES)
            self.assertIsInstance(error, Rejected)
            self.assertTrue(is_counterexample(NEAR, PRICES, error.reason))
            for value in odd_but(Query):
                self.assertEqual(told_error(call, value), (InvalidQuery,))
            # The schemas differ: an error of the check comes first.
            self.assertEqual(told_error(call, EIGHT), (InvalidOperation,))

    def test_limits(self):
        store = GuardedStore(Placement(WIDE, t=(ALL,)))
        self.assertEqual(told_error(store.ask, EIGHT), (TooMany, 7))
        self.assertEqual(told_error(store.pledge, "a", EIGHT), (TooMany, 7))
        # With more rows a right query has too many matches.
        query = Query(FREE, "distinct", Clause((("b", ("x",)), ("b", ("y",)), ("b", ("z",)))))
        store = GuardedStore(free(a=(ALL,)), nodes=2)
        for number in range(13):
            store.add("b", (number,))
        self.assertTrue(is_right_for(store.placement, query))
        self.assertEqual(told_error(store.ask, query), (TooMany, 2000))
        self.assertEqual(told_error(store, query), (TooMany, 2000))


class PledgeTest(unittest.TestCase):
    def test_pledges(self):
        store = guarded_shop()
        self.assertEqual([store.pledge("t", TOWNS), store.pledge("h", HEADS)], [(), ()])
        self.assertEqual(list(store.pledges.items()), [("h", HEADS), ("t", TOWNS)])
        self.assertEqual([store.pledge("t", EVERY), store.pledges], [(), {"h": HEADS, "t": EVERY}])
        self.assertEqual([store.release("h"), store.pledges], [(), {"t": EVERY}])
        self.assertEqual([store.undo(), store.pledges], [6, {"h": HEADS, "t": EVERY}])
        self.assertEqual([store.undo(many=2), store.pledges], [4, {"t": TOWNS}])
        self.assertEqual([store.redo(many=3), store.pledges], [7, {"t": EVERY}])

    def test_refused_pledges(self):
        store = guarded_shop()
        store.pledge("t", TOWNS)
        store.undo()
        before = state(store)
        for value in (*odd_values(), "T", "toolongname"):
            self.assertEqual(told_error(store.pledge, value, None), (InvalidOperation,))
        for value in odd_but(Query):
            self.assertEqual(told_error(store.pledge, "a", value), (InvalidQuery,))
        self.assertEqual(told_error(store.pledge, "a", EIGHT), (InvalidOperation,))
        error = raised(store.pledge, "a", PRICES)
        self.assertIsInstance(error, Rejected)
        self.assertTrue(is_counterexample(NEAR, PRICES, error.reason))
        self.assertEqual([state(store), store.redo()], [before, 4])

    def test_four_and_five(self):
        store = guarded_shop()
        for name in ("a", "b", "c", "d"):
            store.pledge(name, TOWNS)
        self.assertEqual(told_error(store.pledge, "e", TOWNS), (TooMany, 4))
        self.assertEqual(told_error(store.pledge, "e", PRICES)[0], Rejected)
        self.assertEqual(told_error(store.pledge, "E", TOWNS), (InvalidOperation,))
        self.assertEqual([store.pledge("d", HEADS), store.pledges["d"], len(store.pledges)], [(), HEADS, 4])
        store.release("a")
        self.assertEqual([store.pledge("e", TOWNS), list(store.pledges)], [(), ["b", "c", "d", "e"]])

    def test_releases(self):
        store = guarded_shop()
        store.pledge("t", TOWNS)
        for value in (*odd_values(), "h", SIXTY_ONE, ("t",)):
            self.assertEqual(repr(told_error(store.release, value)), repr((UnknownName, value)))
        self.assertEqual(store.pledges, {"t": TOWNS})

    def test_nothing_is_shared(self):
        store = guarded_shop()
        store.pledge("t", TOWNS)
        store.pledges.clear()
        store.pledges["h"] = PRICES
        self.assertEqual(store.pledges, {"t": TOWNS})

    def test_moves(self):
        store = guarded_shop()
        self.assertNotEqual(store.moves, ())
        store.pledge("t", TOWNS)
        self.assertEqual(store.moves, ())


class PutTest(unittest.TestCase):
    def test_pledged_queries_stay_right(self):
        store = guarded_shop(FAR)
        store.put("item", ALL)
        store.pledge("t", TOWNS)
        before = state(store)
        for call in (lambda: store.put("item", ("by", "t", ("code",))), lambda: store.put("item", ANY),
                     lambda: store.__setitem__("item", (ANY,))):
            error = raised(call)
            self.assertIsInstance(error, Rejected)
            self.assertTrue(is_counterexample(error.reason.placement, TOWNS, error.reason))
            self.assertEqual(state(store), before)
        self.assertEqual(len(store.put("cus", ALL)), 2)
        store.release("t")
        self.assertEqual(len(store.put("item", ANY)), 1)

    def test_the_first_name_whose_query_would_be_wrong(self):
        store = guarded_shop(FAR)
        store.pledge("b", PRICES)
        store.pledge("c", Query(SHOP, "count", Clause((("item", (9, "p")),))))
        store.pledge("a", HEADS)
        error = raised(store.put, "item", ALL)
        self.assertTrue(is_counterexample(FAR.with_rules("item", ALL), PRICES, error.reason))
        store.pledge("a", store.pledges["c"])
        error = raised(store.put, "item", ALL)
        self.assertTrue(is_counterexample(FAR.with_rules("item", ALL), store.pledges["a"], error.reason))

    def test_errors_of_put_come_first(self):
        store = guarded_shop(FAR)
        store.pledge("p", PRICES)
        self.assertEqual(told_error(store.put, "none", ALL), (UnknownName, "none"))
        self.assertEqual(told_error(store.put, "item", ALL, ANY), (InvalidRule,))
        self.assertEqual(told_error(store.put, "item", ("by", "s", ("code", "price"))), (InvalidPlacement,))
        self.assertEqual(told_error(store.put, "item", ("by", "u", ("code",))), (InvalidOperation,))
        self.assertEqual(told_error(store.put, "item", ALL)[0], Rejected)

    def test_errors_of_checks(self):
        store = guarded_shop(NEAR.with_rules("item", ("by", "s", ("code",))))
        store.pledge("q", Query(SHOP, "distinct", Clause((("cus", ("c", "t")), ("item", ("c", "p"))),
                                                         absences=(("ord", ("c", "c", "n")),), head=("c",))))
        # The table of an absence would have two rules.
        self.assertEqual(told_error(store.put, "ord", ANY, ("with", "oc")), (InvalidOperation,))
        wide = Placement(WIDE, t=(("by", "s", ("a",)),))
        store = GuardedStore(wide, spreads={"s": (1,), "w": (1,)})
        count = Query(WIDE, "count", Clause((("t", ("a", "b", "c", "d")), ("t", ("a", "f", "g", "b")))))
        store.pledge("q", count)
        self.assertEqual(told_error(store.put, "t", ("by", "s", ("a",)), ("by", "w", ("c",)))[0], Rejected)
        self.assertEqual(store.placement, wide)

    def test_items_and_undo(self):
        store = guarded_shop(FAR)
        store["item"] = (ALL,)
        store.pledge("t", TOWNS)
        # Behind undo the placement is one for which the pledges of that time are right.
        self.assertEqual([store.undo(many=2), store.pledges, store["item"]], [3, {}, FAR["item"]])
        self.assertEqual([store.redo(many=2), store.pledges, store["item"]], [5, {"t": TOWNS}, (ALL,)])
        for many in range(6):
            store.undo(many=many)
            self.assertTrue(all(is_right_for(store.placement, query) for query in store.pledges.values()))
            store.redo(many=many)


class BlocksTest(unittest.TestCase):
    def test_blocks(self):
        store = guarded_shop(FAR)
        with store.group():
            store.put("item", ALL)
            store.pledge("t", TOWNS)
        self.assertEqual([store.undo(), store.pledges, store.redo(), store.pledges], [3, {}, 4, {"t": TOWNS}])
        with store.trial() as same:
            same.release("t")
            same.put("item", FIRST)
        self.assertEqual([store.pledges, store["item"]], [{"t": TOWNS}, (ALL,)])
        with self.assertRaises(Rejected):
            with store.group():
                store.release("t")
                store.pledge("p", PRICES)
        self.assertEqual([store.pledges, store.undo(many=0)], [{"t": TOWNS}, 4])

    def test_equality(self):
        store, again = guarded_shop(), guarded_shop()
        self.assertEqual(store, again)
        store.pledge("t", TOWNS)
        self.assertNotEqual(store, again)
        again.pledge("h", TOWNS)
        self.assertNotEqual(store, again)
        again.pledge("t", TOWNS)
        again.release("h")
        self.assertEqual(store, again)
        plain = Store(NEAR, nodes=2, spreads=WEIGHTS)
        for table, row in DAY.pairs():
            plain.add(table, row)
        self.assertTrue(plain == guarded_shop() and guarded_shop() == plain)
        self.assertTrue(plain != store and store != plain)

    def test_twins(self):
        store = guarded_shop()
        store.pledge("t", TOWNS)
        twin = store.twin()
        self.assertIsInstance(twin, GuardedStore)
        self.assertEqual([twin, twin.pledges, twin.moves], [store, {"t": TOWNS}, ()])
        twin.release("t")
        self.assertEqual([store.pledges, twin.pledges], [{"t": TOWNS}, {}])
        self.assertEqual(told_error(twin.ask, PRICES)[0], Rejected)
        self.assertEqual([twin.undo(), twin.pledges, store.undo(), store.pledges], [4, {"t": TOWNS}, 3, {}])


if __name__ == "__main__":
    unittest.main()
