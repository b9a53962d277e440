"""Groups, trials, twins, and drawn sequences of changes against a model."""

import random
import unittest

from dealtrows.base.databases import Database
from dealtrows.base.schemas import Schema
from dealtrows.deal.cases import Case
from dealtrows.deal.placements import Placement
from dealtrows.errors import BrokenConstraint, DealError, InvalidNumber, MissingRow, NothingToUndo, TooMany
from dealtrows.live.guarded import GuardedStore
from dealtrows.live.store import Store
from model import Model, Refused
from samples import told_error
from test_store import ALL, ANY, BOTH, BY, FIRST, FREE, OTHER, WEIGHTS, free, state, stored


class Stop(Exception):
    """An error of a test's own."""


def fill(store):
    store.add("a", (7, 2))
    store.add("c", (7, 0))
    return "filled"


class GroupTest(unittest.TestCase):
    def test_changes_count_as_one(self):
        store = stored(rows=[("b", (1,))])
        with store.group():
            fill(store)
            store.resize(2)
            self.assertEqual(store.moves, (("b", (1,), (0, 1, 2), (0, 1)),))
        self.assertEqual(store.moves, (("a", (7, 2), (), (1,)), ("b", (1,), (0, 1, 2), (0, 1)), ("c", (7, 0), (), (1,))))
        self.assertEqual([store.undo(), len(store), store.nodes], [1, 1, 3])
        self.assertEqual(store.moves, (("a", (7, 2), (1,), ()), ("b", (1,), (0, 1), (0, 1, 2)), ("c", (7, 0), (1,), ())))
        self.assertEqual([store.redo(), len(store), store.nodes], [2, 3, 2])

    def test_results_of_calls(self):
        store = stored()
        self.assertEqual([store.grouped(fill), len(store), store.undo()], ["filled", 2, 0])
        self.assertEqual([store.during(fill), len(store), store.redo()], ["filled", 0, 1])
        self.assertIsNone(store.grouped(lambda same: None))
        store.grouped(lambda same: self.assertIs(same, store))
        store.during(lambda same: self.assertIs(same, store))

    def test_undo_takes_back_the_changes_of_the_block_alone(self):
        store = stored(rows=[("b", (1,)), ("b", (2,))])
        with store.group():
            self.assertEqual(told_error(store.undo), (NothingToUndo, 1))
            self.assertEqual(store.undo(many=0), 0)
            store.add("b", (3,))
            store.add("b", (4,))
            self.assertEqual(told_error(store.undo, many=3), (NothingToUndo, 3))
            self.assertEqual([store.undo(), store.redo(), store.undo(many=2), store.redo(), len(store)], [1, 2, 0, 1, 3])
        self.assertEqual([store.undo(), len(store), store.undo(many=2)], [2, 2, 0])

    def test_none_is_left(self):
        store = stored(rows=[("b", (1,))])
        with store.group():
            store.resize(2)
            store.undo()
        self.assertEqual([store.moves, store.undo(), store.nodes], [(), 0, 3])
        store = stored(rows=[("b", (1,))])
        with store.group():
            pass
        self.assertEqual([store.moves, len(store), store.undo()], [(), 1, 0])

    def test_an_empty_group_keeps_what_can_be_redone(self):
        store = stored(rows=[("b", (1,))])
        store.undo()
        store.grouped(lambda same: None)
        self.assertEqual([store.redo(), len(store)], [1, 1])

    def test_changes_that_change_nothing_are_left(self):
        store = stored()
        with store.group():
            store.resize(3)
        self.assertEqual([store.moves, store.undo()], [(), 0])

    def test_redo_in_a_group(self):
        store = stored(rows=[("b", (1,)), ("b", (2,)), ("b", (3,))])
        store.undo(many=2)
        with store.group():
            self.assertEqual(store.redo(), 1)
        self.assertEqual([store.undo(), len(store)], [1, 1])
        self.assertEqual([store.redo(many=2), len(store)], [3, 3])

    def test_what_was_undone_in_a_group_can_be_redone_behind_it(self):
        store = stored()
        with store.group():
            store.add("b", (1,))
            store.add("b", (2,))
            store.undo()
        self.assertEqual([len(store), store.redo(), len(store), store.undo(many=2)], [1, 2, 2, 0])

    def test_errors(self):
        for block in ("group", "trial"):
            store = stored(rows=[("b", (1,)), ("b", (2,))])
            store.undo()
            before = state(store)
            with self.assertRaises(Stop):
                with getattr(store, block)():
                    fill(store)
                    store.resize(9)
                    raise Stop
            self.assertEqual(state(store), before)
            self.assertEqual([store.redo(), store.undo(many=2)], [2, 0])

    def test_errors_of_changes(self):
        store = stored(rows=[("b", (1,))])
        store.resize(2)
        before = state(store)
        for call in (lambda same: (fill(same), same.remove("a", (7, 2))), lambda same: (fill(same), same.undo(many=3)),
                     lambda same: (same.undo(), fill(same)), lambda same: (fill(same), 1 // 0)):
            for block in (store.grouped, store.during):
                with self.assertRaises((BrokenConstraint, NothingToUndo, ZeroDivisionError)):
                    block(call)
                self.assertEqual(state(store), before)
        self.assertEqual(store.undo(many=2), 0)

    def test_refused_changes_within(self):
        store = stored(rows=[("b", (1,))])
        with store.group():
            fill(store)
            self.assertEqual(told_error(store.add, "b", (1,))[0].__name__, "InvalidOperation")
            self.assertEqual(told_error(store.resize, 10), (InvalidNumber, 10))
            self.assertEqual(told_error(store.remove, "b", (9,)), (MissingRow, (9,)))
        self.assertEqual([len(store), store.undo(), len(store)], [3, 1, 1])

    def test_leaving_a_block_early(self):
        def early(same):
            with same.group():
                fill(same)
                return same.resize(2)
        store = stored()
        self.assertEqual(early(store), ())
        self.assertEqual([len(store), store.moves, store.undo()], [2, (("a", (7, 2), (), (1,)), ("c", (7, 0), (), (1,))), 0])

    def test_what_a_block_gives(self):
        store = stored()
        with store.trial() as same:
            self.assertIs(same, store)
            same.resize(2)
        self.assertEqual(store.nodes, 3)


class TrialTest(unittest.TestCase):
    def test_all_is_as_before(self):
        store = stored(rows=[("b", (1,)), ("b", (2,))])
        store.undo()
        before = state(store)
        with store.trial():
            fill(store)
            store.undo()
            store.resize(5)
        self.assertEqual(state(store), before)
        self.assertNotEqual(store.moves, ())
        with store.trial():
            self.assertEqual([store.redo(), len(store), store.undo()], [1, 2, 0])
        self.assertEqual(state(store), before)
        self.assertEqual([store.redo(), store.undo(many=2)], [2, 0])

    def test_empty(self):
        store = stored(rows=[("b", (1,))])
        before = state(store)
        with store.trial():
            pass
        self.assertEqual([state(store), store.undo()], [before, 0])


class NestedTest(unittest.TestCase):
    def test_groups_in_groups(self):
        store = stored()
        with store.group():
            store.add("b", (1,))
            with store.group():
                fill(store)
                self.assertEqual(told_error(store.undo, many=3), (NothingToUndo, 3))
            self.assertEqual(store.moves, (("a", (7, 2), (), (1,)), ("c", (7, 0), (), (1,))))
            self.assertEqual([store.undo(), len(store), store.redo(), len(store)], [1, 1, 2, 3])
        self.assertEqual([len(store.moves), store.undo(), len(store)], [3, 0, 0])

    def test_trials_in_groups(self):
        store = stored()
        with store.group():
            store.add("b", (1,))
            with store.trial():
                fill(store)
                store.resize(1)
            self.assertEqual([store.moves, len(store), store.undo(many=0)], [(("b", (1,), (), (0, 1, 2)),), 1, 1])
        self.assertEqual([len(store), store.undo()], [1, 0])

    def test_groups_in_trials(self):
        store = stored(rows=[("b", (1,))])
        before = state(store)
        with store.trial():
            with store.group():
                fill(store)
            self.assertEqual([len(store), store.undo(), len(store)], [3, 0, 1])
            store.redo()
        self.assertEqual([state(store), store.undo()], [before, 0])

    def test_errors_at_each_depth(self):
        for outer in ("group", "trial"):
            for inner in ("group", "trial"):
                store = stored(rows=[("b", (1,))])
                before = state(store)
                # The inner block ends by an error that the outer one does not see.
                with getattr(store, outer)():
                    store.add("b", (2,))
                    within = state(store)
                    with self.assertRaises(Stop):
                        with getattr(store, inner)():
                            fill(store)
                            raise Stop
                    self.assertEqual([state(store), store.undo(many=0)], [within, 1])
                if outer == "group":
                    self.assertEqual([len(store), store.undo()], [2, 1])
                    store.redo()
                else:
                    self.assertEqual([state(store), store.undo(many=0)], [before, 1])
                # The error goes through both.
                before = state(store)
                with self.assertRaises(Stop):
                    with getattr(store, outer)():
                        store.add("b", (3,))
                        with getattr(store, inner)():
                            fill(store)
                            raise Stop
                self.assertEqual(state(store), before)
                # The outer block ends by an error behind the inner one.
                with self.assertRaises(Stop):
                    with getattr(store, outer)():
                        with getattr(store, inner)():
                            fill(store)
                        raise Stop
                self.assertEqual(state(store), before)

    def test_calls_in_calls(self):
        store = stored()
        told = store.grouped(lambda one: one.during(lambda other: other.grouped(fill)))
        self.assertEqual([told, len(store), told_error(store.undo)], ["filled", 0, (NothingToUndo, 1)])


class TwinTest(unittest.TestCase):
    def test_twins_in_blocks(self):
        store = stored(rows=[("b", (1,)), ("b", (2,))])
        with store.group():
            store.add("b", (3,))
            with store.group():
                store.add("b", (4,))
                store.add("b", (5,))
                store.undo()
                twin = store.twin()
            self.assertEqual(store.undo(many=0), 2)
        self.assertEqual([twin, twin.moves], [store, (("b", (5,), (0, 1, 2), ()),)])
        # The twin is in no block, so that all of its changes can be undone.
        self.assertEqual([twin.redo(), twin.undo(many=5), len(twin), len(store)], [5, 0, 0, 4])
        self.assertEqual([store.undo(), len(store)], [2, 2])

    def test_twins_have_blocks_of_their_own(self):
        store = stored(rows=[("b", (1,))])
        twin = store.twin()
        with twin.trial():
            twin.add("b", (2,))
            store.add("b", (3,))
        self.assertEqual([twin.database["b"], store.database["b"]], [((1,),), ((1,), (3,))])


RULES = {"a": ((ALL,), (FIRST,), (ANY,), (BY,), (ANY, BOTH), (BY, FIRST)), "b": ((ALL,), (ANY,), (BY,), (ANY, FIRST)),
         "c": ((("with", "ca"),), (ANY,), (OTHER, ("with", "ca")), (BOTH,), (ANY, ("with", "ca")))}


class Drawn:
    """A store and its model, which do the same drawn things."""

    def __init__(self, test, seed, kind):
        self.test, self.drawn = test, random.Random(seed)
        rules = {table: self.drawn.choice(RULES[table]) for table in RULES}
        self.store = kind(Placement.of(FREE, rules), nodes=2, spreads=WEIGHTS)
        self.model = Model(FREE, rules, 2, WEIGHTS)

    def both(self, call, same):
        """Do something in the store and in the model, which refuse it together."""
        try:
            wanted = same()
        except Refused:
            with self.test.assertRaises((DealError, MissingRow, NothingToUndo, TooMany, InvalidNumber)):
                call()
        else:
            found = call()
            if wanted is not None:
                self.test.assertEqual(found, wanted)
        self.look()

    def look_at_case(self):
        """The database and the case are those that are made anew from the rows."""
        case, lies = self.store.case(), self.model.lies(self.model.now)
        rows = {table: tuple(sorted(row for other, row in lies if other == table)) for table in FREE.tables}
        self.test.assertEqual(self.store.database.rows, rows)
        self.test.assertEqual(self.store.database.pairs(), tuple(sorted(lies)))
        made = Database(FREE, rows)
        for row in rows["c"]:
            self.test.assertEqual(case.database.parent_of("ca", row), made.parent_of("ca", row))
        for node in range(case.nodes):
            there = {table: tuple(row for row in rows[table] if node in lies[table, row]) for table in rows}
            self.test.assertEqual(case.rows_at(node), there)
        spreads = {(name, told): sum(weight * number for weight, number in zip(WEIGHTS[name], told)) % case.nodes
                   for name, told in case.spreads}
        lone = {pair: self.model.now.lone[pair] for pair in lies if ANY in self.model.now.rules[pair[0]]}
        self.test.assertEqual(case, Case(case.placement, made, nodes=case.nodes, spreads=spreads, lone=lone))
        self.test.assertEqual([list(case.places), list(case.lone)], [sorted(case.places), sorted(lone)])

    def look(self):
        self.look_at_case()
        store, model = self.store, self.model
        self.test.assertEqual({pair: store.case().nodes_of(*pair) for pair in store.database}, model.lies(model.now))
        self.test.assertEqual([store.nodes, store.placement.rules, store.moves],
                              [model.now.nodes, model.now.rules, model.moves()])
        self.test.assertEqual(len(store), len(model.now.lone))

    def pair(self):
        table = self.drawn.choice("abc")
        return table, tuple(self.drawn.randint(-2, 3) for _ in FREE.columns_of(table))

    def change(self):
        drawn, store, model = self.drawn, self.store, self.model
        kind = drawn.randrange(7)
        if kind < 3:
            pair, node = self.pair(), drawn.choice((None, None, 0, 1, 3))
            self.both(lambda: store.add(*pair, node=node), lambda: model.moves_by(model.add, pair, node))
        elif kind == 3:
            pair = drawn.choice([*store.database, self.pair()])
            self.both(lambda: store.remove(*pair), lambda: model.moves_by(model.remove, pair))
        elif kind == 4:
            table = drawn.choice("abc")
            rules = drawn.choice(RULES[table])
            self.both(lambda: store.put(table, *rules[::-1]), lambda: model.moves_by(model.put, table, rules))
        elif kind == 5:
            nodes = drawn.randint(1, 9)
            self.both(lambda: store.resize(nodes), lambda: model.moves_by(model.resize, nodes))
        else:
            many = drawn.choice((0, 1, 1, 2, 3))
            if drawn.random() < 0.5:
                self.both(lambda: store.undo(many=many), lambda: model.step(-many))
            else:
                self.both(lambda: store.redo(many=many), lambda: model.step(many))

    def block(self, depth):
        """Some changes, perhaps in a block, which perhaps ends by an error."""
        kind = self.drawn.choice(("group", "group", "trial")) if depth else None
        fails = self.drawn.random() < 0.3
        if kind is None:
            for _ in range(self.drawn.randint(0, 4)):
                self.change()
            return
        kept = self.model.begin()
        try:
            with getattr(self.store, kind)():
                for _ in range(self.drawn.randint(0, 3)):
                    self.block(depth - 1 if self.drawn.random() < 0.5 else 0)
                if fails:
                    raise Stop
        except Stop:
            pass
        if fails or kind == "trial":
            self.model.restore(kept)
        else:
            self.model.end(kept)
        self.look()


class DrawnTest(unittest.TestCase):
    def test_drawn_sequences(self):
        for seed in range(40):
            told = Drawn(self, seed, GuardedStore if seed % 4 == 0 else Store)
            for _ in range(20):
                told.block(told.drawn.randrange(4))
                if told.drawn.random() < 0.2:
                    # A twin lives on instead, and the other store stays as it is.
                    old = told.store
                    before = state(old)
                    told.store = old.twin()
                    told.look()
                    told.block(1)
                    self.assertEqual(state(old), before)


if __name__ == "__main__":
    unittest.main()
