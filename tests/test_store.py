"""[16.1], [16.2] and class Store: changes, moves, undo and redo."""

import unittest

from dealtrows.ask.queries import Clause, Query
from dealtrows.base.databases import Database
from dealtrows.base.schemas import Schema
from dealtrows.deal.cases import Case
from dealtrows.deal.placements import Placement
from dealtrows.errors import BrokenConstraint, InvalidNumber, InvalidOperation, InvalidPlacement, InvalidQuery, InvalidRow
from dealtrows.errors import InvalidRule, MissingRow, NoNodes, NothingToUndo, TooMany, UnknownName
from dealtrows.live.store import Store
from samples import DAY, FAR, NEAR, PRICES, SHOP, SIXTY, SIXTY_ONE, TOWNS, odd_but, odd_values, shop_again, told_error

ALL, FIRST, ANY = ("all",), ("first",), ("any",)
BY, OTHER, BOTH = ("by", "s", ("x",)), ("by", "t", ("y",)), ("by", "w", ("y", "x"))
FREE = Schema({"a": ("x", "y"), "b": ("x",), "c": ("x", "y")}, keys={"a": (("x",),)},
              references={"ca": ("c", ("x",), "a", ("x",))})
WEIGHTS = {"s": (1,), "t": (-3,), "w": (2, 5), "spare": (1, 2, 3, 4)}


def free(a=(BY,), b=(ALL,), c=(("with", "ca"),)):
    return Placement(FREE, a=a, b=b, c=c)


def stored(placement=None, nodes=3, rows=()):
    store = Store(free() if placement is None else placement, nodes=nodes, spreads=WEIGHTS)
    for table, row in rows:
        store.add(table, row)
    return store


def shop(nodes=2):
    store = Store(FAR, nodes=nodes, spreads={"s": (1,), "t": (3,)})
    store.add("cus", (1, 5))
    store.add("item", (9, 7))
    store.add("ord", (1, 9, 3))
    return store


def state(store):
    """All that can be seen of a store, but for what can be undone."""
    return (store.case(), store.placement, store.nodes, store.spreads, store.database, store.moves, len(store))


class ConstructorTest(unittest.TestCase):
    def test_empty_stores(self):
        store = Store(NEAR, spreads={"s": (7,)})
        self.assertEqual([store.placement, store.nodes, store.spreads, store.database, store.moves, len(store)],
                         [NEAR, 1, {"s": (7,)}, Database(SHOP), (), 0])
        self.assertEqual(store.case(), Case(NEAR, Database(SHOP), nodes=1))
        self.assertEqual([Store(free(a=(ALL,)), nodes=nodes).nodes for nodes in range(1, 10)], list(range(1, 10)))
        self.assertEqual(Store(free(a=(ALL,))).spreads, {})
        self.assertEqual(list(stored().spreads), sorted(WEIGHTS))
        self.assertEqual(stored().spreads, WEIGHTS)
        self.assertEqual(told_error(store.undo), (NothingToUndo, 1))

    def test_spreads_that_are_refused(self):
        for value in (*odd_values(), {"s": 1}, {"s": [1]}, {"s": ()}, {"s": (1, 2)}, {"s": (True,)}, {"s": (SIXTY_ONE,)},
                      {"s": (1,), "t": (1, 2, 3, 4, 5)}, {"s": (1,), "T": (1,)}, {"s": (1,), 1: (1,)}, {"t": (1,)}, (("s", (1,)),),
                      {"s": (1,), "t": ()}, {"s": ("1",)}, {"s": (None,)}, {"s": (1,), "toolongname": (1,)}):
            if value is not None:
                self.assertEqual(told_error(Store, NEAR, spreads=value), (InvalidOperation,), value)
        self.assertEqual(told_error(Store, NEAR), (InvalidOperation,))
        self.assertEqual(told_error(Store, NEAR, spreads=None), (InvalidOperation,))
        for weights in ({"s": (SIXTY,)}, {"s": (-SIXTY,)}, {"s": (0,), "t": (1, 2, 3, 4)}):
            self.assertIsNone(told_error(Store, NEAR, spreads=weights))
        two = free(c=(BOTH,))
        self.assertEqual(told_error(Store, two, spreads={"s": (1,), "w": (1,)}), (InvalidOperation,))
        self.assertIsNone(told_error(Store, two, spreads={"s": (1,), "w": (1, 0)}))

    def test_numbers_of_nodes(self):
        for call in (lambda nodes: Store(NEAR, nodes=nodes, spreads={"s": (1,)}), stored().resize,
                     lambda nodes: setattr(stored(), "nodes", nodes)):
            for nodes in (0, -1, -9, -SIXTY):
                self.assertEqual(told_error(call, nodes), (NoNodes, nodes))
            for nodes in (10, SIXTY, SIXTY_ONE, True, False, None, "1", (1,), [2]):
                self.assertEqual(told_error(call, nodes), (InvalidNumber, nodes))

    def test_order_of_errors(self):
        for value in odd_but(Placement):
            self.assertEqual(told_error(Store, value, nodes=0, spreads=1), (InvalidPlacement,))
        self.assertEqual(told_error(Store, NEAR, nodes=0, spreads=1), (NoNodes, 0))
        self.assertEqual(told_error(Store, NEAR, nodes=None, spreads=1), (InvalidNumber, None))

    def test_nothing_is_shared(self):
        weights = {"s": (1,)}
        store = Store(NEAR, nodes=3, spreads=weights)
        weights["s"] = (2,)
        store.spreads["s"] = (2,)
        store.spreads.clear()
        self.assertEqual(store.add("cus", (1, 5)), (("cus", (1, 5), (), (1,)),))
        store.database.rows.clear()
        store.case().places.clear()
        store.placement.rules.clear()
        self.assertEqual([store.database.pairs(), store.case().places, store.placement],
                         [(("cus", (1, 5)),), {("by", "s", (1,)): 1}, NEAR])

    def test_stores_are_not_iterated_over(self):
        with self.assertRaises(TypeError):
            list(stored())


class AddTest(unittest.TestCase):
    def test_each_kind_of_rule(self):
        store = stored(rows=[("a", (7, 2))])
        self.assertEqual(store.moves, (("a", (7, 2), (), (1,)),))
        self.assertEqual(store.add("b", (4,)), (("b", (4,), (), (0, 1, 2)),))
        self.assertEqual(store.add("c", (7, 0)), (("c", (7, 0), (), (1,)),))
        store = stored(free(a=(FIRST,), b=(ANY,), c=(OTHER,)), rows=[("a", (7, 2))])
        self.assertEqual(store.moves, (("a", (7, 2), (), (0,)),))
        self.assertEqual(store.add("b", (4,), node=2), (("b", (4,), (), (2,)),))
        # -3 times 4 is 0 modulo 3, and -3 times 1 as well.
        self.assertEqual([store.add("c", (7, number))[0][3] for number in (4, 1)], [(0,), (0,)])

    def test_two_rules(self):
        store = stored(free(a=(ANY, BY), c=(OTHER, ("with", "ca"))), nodes=4)
        self.assertEqual(store.add("a", (7, 2), node=1), (("a", (7, 2), (), (1, 3)),))
        self.assertEqual(store.add("a", (6, 2), node=2), (("a", (6, 2), (), (2,)),))
        self.assertEqual(store.add("c", (7, 2)), (("c", (7, 2), (), (1, 2, 3)),))
        both = stored(free(a=(FIRST,), c=(ANY, BOTH)), nodes=9, rows=[("a", (1, 1))])
        self.assertEqual(both.add("c", (1, 3), node=0), (("c", (1, 3), (), (0, (2 * 3 + 5 * 1) % 9)),))

    def test_weights_and_integers(self):
        for weight in (0, 1, -1, -7, SIXTY, -SIXTY):
            for number in (0, 1, -1, 12, SIXTY, -SIXTY):
                for nodes in (1, 2, 9):
                    store = Store(NEAR, nodes=nodes, spreads={"s": (weight,)})
                    self.assertEqual(store.add("cus", (number, 0))[0][3], (weight * number % nodes,))

    def test_a_node_that_is_not_told(self):
        store = stored(free(a=(ANY,), c=(ANY,)), nodes=3)
        self.assertEqual([store.add("a", (number, 0))[0][3] for number in range(4)], [(0,), (1,), (2,), (0,)])
        store.add("c", (0, 0), node=1)
        store.add("c", (1, 0), node=1)
        # Node 0 has two rows, node 1 three and node 2 one; then node 0 is the first of two.
        self.assertEqual([store.add("c", (number, 1), node=None)[0][3] for number in (0, 1)], [(2,), (0,)])

    def test_rows_everywhere_count_on_each_node(self):
        store = stored(free(a=(FIRST,), c=(ANY,)), nodes=2, rows=[("b", (1,)), ("a", (1, 1)), ("b", (2,))])
        self.assertEqual(store.add("c", (1, 1)), (("c", (1, 1), (), (1,)),))
        self.assertEqual(store.add("c", (1, 2)), (("c", (1, 2), (), (0,)),))

    def test_errors(self):
        store = stored(free(a=(ANY,)), rows=[("a", (1, 1))])
        before = state(store)
        for value in (*odd_values(), "d", ("a",)):
            self.assertEqual(repr(told_error(store.add, value, None, node=99)), repr((UnknownName, value)))
        for value in (*odd_values(), (), (1,), (1, 2, 3), (1, True), (1, SIXTY_ONE), [1, 2], "12", (1, None)):
            self.assertEqual(told_error(store.add, "a", value, node=99), (InvalidRow,))
        for node in (3, -1, True, False, "0", (0,), SIXTY_ONE):
            self.assertEqual(told_error(store.add, "a", (1, 1), node=node), (InvalidNumber, node))
        self.assertEqual(told_error(store.add, "b", (5,), node=0), (InvalidOperation,))
        self.assertEqual(told_error(store.add, "a", (1, 1), node=0), (InvalidOperation,))
        self.assertEqual(told_error(store.add, "a", (1, 1)), (InvalidOperation,))
        self.assertEqual(told_error(store.add, "b", (5,), node=7), (InvalidNumber, 7))
        self.assertEqual(told_error(store.add, "a", (1, 2)), (BrokenConstraint, ("key", "a", ("x",))))
        self.assertEqual(told_error(store.add, "c", (2, 2)), (BrokenConstraint, ("reference", "ca")))
        self.assertEqual(state(store), before)
        self.assertEqual(store.undo(), 0)

    def test_too_many_rows(self):
        store = stored(rows=[("b", (number,)) for number in range(99)])
        self.assertEqual(store.add("a", (1, 1)), (("a", (1, 1), (), (1,)),))
        self.assertEqual(len(store), 100)
        for pair in (("b", (99,)), ("a", (1, 2)), ("c", (7, 7))):
            self.assertEqual(told_error(store.add, *pair), (TooMany, 100))
        self.assertEqual(told_error(store.add, "b", (7,)), (InvalidOperation,))
        store.remove("b", (0,))
        self.assertEqual(store.add("c", (1, 7)), (("c", (1, 7), (), (1,)),))

    def test_plus(self):
        store = again = stored()
        store += ("a", (5, 5))
        store += ("b", (5,))
        self.assertIs(store, again)
        self.assertEqual([store.moves, len(store), store.undo()], [(("b", (5,), (), (0, 1, 2)),), 2, 1])
        for value in (*odd_but(tuple), (), ("a",), ("a", (1, 1), 0), [("a", (1, 1))], ["a", (1, 1)]):
            with self.assertRaises(InvalidOperation):
                store += value
        for value, error in ((("d", (1,)), (UnknownName, "d")), (("a", 1), (InvalidRow,)), (("a", (5, 5)), (InvalidOperation,)),
                             (("a", (5, 6)), (BrokenConstraint, ("key", "a", ("x",)))), ((None, None), (UnknownName, None))):
            self.assertEqual(told_error(store.__iadd__, value), error)
        self.assertEqual(len(store), 1)


class RemoveTest(unittest.TestCase):
    def test_moves(self):
        store = stored(free(c=(ANY,)), rows=[("a", (7, 2)), ("b", (4,)), ("c", (7, 0))])
        self.assertEqual(store.remove("b", (4,)), (("b", (4,), (0, 1, 2), ()),))
        self.assertEqual(store.remove("c", (7, 0)), (("c", (7, 0), (0,), ()),))
        self.assertEqual(store.remove("a", (7, 2)), (("a", (7, 2), (1,), ()),))
        self.assertEqual(store.database, Database(FREE))
        self.assertEqual([store.undo(many=3), len(store), store.case().lone], [3, 3, {("c", (7, 0)): 0}])

    def test_errors(self):
        store = stored(rows=[("a", (7, 2)), ("c", (7, 0))])
        before = state(store)
        for value in (*odd_values(), "d", ("a",)):
            self.assertEqual(repr(told_error(store.remove, value, None)), repr((UnknownName, value)))
        for value in (*odd_values(), (7, 3), (7,), ()):
            self.assertEqual(repr(told_error(store.remove, "a", value)), repr((MissingRow, value)))
        self.assertEqual(told_error(store.remove, "a", (7, 2)), (BrokenConstraint, ("reference", "ca")))
        self.assertEqual(state(store), before)

    def test_the_first_reference_that_would_break(self):
        schema = Schema({"a": ("k",), "b": ("k",)}, keys={"a": (("k",),)},
                        references={"y": ("b", ("k",), "a", ("k",)), "x": ("b", ("k",), "a", ("k",))})
        store = Store(Placement(schema, a=(ALL,), b=(ALL,)))
        store.add("a", (1,))
        store.add("b", (1,))
        self.assertEqual(told_error(store.remove, "a", (1,)), (BrokenConstraint, ("reference", "x")))

    def test_minus(self):
        store = again = stored(rows=[("a", (7, 2)), ("c", (7, 0))])
        for value in (*odd_but(tuple), (), ("a",), ("a", (7, 2), 0), ["c", (7, 0)]):
            with self.assertRaises(InvalidOperation):
                store -= value
        for value, error in ((("d", (1,)), (UnknownName, "d")), (("a", 1), (MissingRow, 1)),
                             (("a", (7, 2)), (BrokenConstraint, ("reference", "ca")))):
            self.assertEqual(told_error(store.__isub__, value), error)
        store -= ("c", (7, 0))
        store -= ("a", (7, 2))
        self.assertIs(store, again)
        self.assertEqual([store.moves, len(store)], [(("a", (7, 2), (1,), ()),), 0])


class PutTest(unittest.TestCase):
    def test_moves(self):
        store = stored(rows=[("a", (7, 2)), ("b", (4,)), ("c", (7, 0))])
        self.assertEqual(store.put("a", FIRST), (("a", (7, 2), (1,), (0,)), ("c", (7, 0), (1,), (0,))))
        self.assertEqual([store["a"], store.placement], [(FIRST,), free(a=(FIRST,))])
        self.assertEqual(store.put("c", BY, ANY), (("c", (7, 0), (0,), (0, 1)),))
        self.assertEqual(store["c"], (ANY, BY))
        self.assertEqual(store.put("b", ANY), (("b", (4,), (0, 1, 2), (0,)),))
        self.assertEqual(store.put("b", ANY), ())
        self.assertEqual(store.undo(many=4), 3)
        self.assertEqual(store.placement, free())

    def test_the_rule_any(self):
        store = stored(free(b=(ANY,)), rows=[])
        store.add("b", (4,), node=2)
        # A table that has the rule keeps the nodes; one that gets it has node 0.
        self.assertEqual(store.put("b", ANY, BY), (("b", (4,), (2,), (1, 2)),))
        self.assertEqual(store.put("b", BY), (("b", (4,), (1, 2), (1,)),))
        self.assertEqual(store.put("b", ANY), (("b", (4,), (1,), (0,)),))
        self.assertEqual(store.case().lone, {("b", (4,)): 0})

    def test_items(self):
        store = stored(rows=[("a", (7, 2))])
        store["a"] = (ANY, FIRST)
        self.assertEqual([store["a"], store.moves], [(ANY, FIRST), (("a", (7, 2), (1,), (0,)),)])
        store["a"] = (FIRST, ANY)
        self.assertEqual([store["a"], store.moves, store.undo()], [(ANY, FIRST), (), 2])
        for value in (*odd_values(), "d"):
            self.assertEqual(repr(told_error(store.__getitem__, value)), repr((UnknownName, value)))
            self.assertEqual(repr(told_error(store.__setitem__, value, None)), repr((UnknownName, value)))
        for value in (*odd_values(), [ANY], ANY, (), (ALL, ANY), (ANY, ANY), (ANY, FIRST, BY), {ANY: 1}):
            self.assertEqual(told_error(store.__setitem__, "a", value), (InvalidRule,))
        self.assertEqual(told_error(store.__setitem__, "a", (("by", "u", ("x",)),)), (InvalidOperation,))

    def test_errors(self):
        store = stored(rows=[("a", (7, 2))])
        before = state(store)
        for value in (*odd_values(), "d"):
            self.assertEqual(repr(told_error(store.put, value, None)), repr((UnknownName, value)))
        for rules in ((), (None,), (ANY, ANY), (ALL, ANY), (ANY, FIRST, BY), (("with", "ca"),), (("by", "s", ("z",)),), ([ANY],)):
            self.assertEqual(told_error(store.put, "a", *rules), (InvalidRule,))
        # A spread with two arities comes before one that lacks weights.
        self.assertEqual(told_error(store.put, "c", ("by", "s", ("x", "y"))), (InvalidPlacement,))
        self.assertEqual(told_error(store.put, "c", ("by", "u", ("x", "y"))), (InvalidOperation,))
        self.assertEqual(told_error(store.put, "a", ("by", "s", ("x", "y"))), (InvalidOperation,))
        self.assertEqual(told_error(store.put, "c", ("by", "t", ("x", "y"))), (InvalidOperation,))
        self.assertEqual(state(store), before)


class ResizeTest(unittest.TestCase):
    def test_moves(self):
        store = stored(free(c=(ANY,)), nodes=5, rows=[("a", (8, 2)), ("b", (4,))])
        store.add("c", (8, 0), node=4)
        self.assertEqual(store.resize(3), (("a", (8, 2), (3,), (2,)), ("b", (4,), (0, 1, 2, 3, 4), (0, 1, 2)),
                                           ("c", (8, 0), (4,), (1,))))
        # What became a remainder stays one.
        self.assertEqual(store.resize(5), (("a", (8, 2), (2,), (3,)), ("b", (4,), (0, 1, 2), (0, 1, 2, 3, 4))))
        self.assertEqual([store.nodes, store.resize(5), store.undo(many=2), store.nodes], [5, (), 4, 3])

    def test_the_property(self):
        store = stored(nodes=1, rows=[("a", (8, 2))])
        for nodes in (9, 4, 1, 6):
            store.nodes = nodes
            self.assertEqual([store.nodes, store.case().nodes, store.case().nodes_of("a", (8, 2))],
                             [nodes, nodes, (8 % nodes,)])
        self.assertEqual([store.moves, store.undo()], [(("a", (8, 2), (0,), (2,)),), 4])


class AskTest(unittest.TestCase):
    def test_answers(self):
        store = shop()
        self.assertEqual([store.ask(TOWNS).pairs(), store.resize(3), store.ask(TOWNS).pairs(), store.undo()],
                         [(((5,), 1),), (("item", (9, 7), (1,), (0,)),), (), 3])
        self.assertEqual([store(TOWNS), store(PRICES).pairs()], [store.case()(TOWNS), (((7,), 1),)])

    def test_errors(self):
        store = shop()
        other = Query(FREE, "count", Clause((("b", ("x",)),)))
        for call in (store.ask, store):
            for value in (*odd_but(Query), other):
                self.assertEqual(told_error(call, value), (InvalidQuery,))
        many = stored(rows=[("b", (number,)) for number in range(13)])
        query = Query(FREE, "count", Clause((("b", ("x",)), ("b", ("y",)), ("b", ("z",)))))
        self.assertEqual(told_error(many.ask, query), (TooMany, 2000))
        self.assertEqual(told_error(many, query), (TooMany, 2000))


class UndoTest(unittest.TestCase):
    def test_several(self):
        store = stored()
        states = [store.case()]
        for call in (lambda: store.add("a", (7, 2)), lambda: store.add("b", (4,)), lambda: store.resize(2),
                     lambda: store.put("a", FIRST), lambda: store.remove("b", (4,))):
            call()
            states.append(store.case())
        self.assertEqual([store.undo(), store.case()], [4, states[4]])
        self.assertEqual([store.undo(many=3), store.case()], [1, states[1]])
        self.assertEqual([store.redo(many=2), store.case()], [3, states[3]])
        self.assertEqual([store.undo(many=0), store.redo(many=0), store.case()], [3, 3, states[3]])
        self.assertEqual([store.redo(many=2), store.case()], [5, states[5]])
        self.assertEqual([store.undo(many=5), store.case()], [0, states[0]])
        self.assertEqual([store.redo(many=5), store.case()], [5, states[5]])

    def test_too_many(self):
        store = stored(rows=[("b", (1,)), ("b", (2,)), ("b", (3,))])
        store.undo()
        before = state(store)
        for many in (3, 4, SIXTY):
            self.assertEqual(told_error(store.undo, many=many), (NothingToUndo, many))
        for many in (2, 3, SIXTY):
            self.assertEqual(told_error(store.redo, many=many), (NothingToUndo, many))
        self.assertEqual(state(store), before)
        self.assertEqual([store.redo(), store.undo(many=3)], [3, 0])

    def test_numbers(self):
        store = stored(rows=[("b", (1,))])
        for call in (store.undo, store.redo):
            for many in (-1, -SIXTY, True, False, None, "1", (1,), SIXTY_ONE, -SIXTY_ONE):
                self.assertEqual(told_error(call, many=many), (InvalidNumber, many))
        self.assertEqual(len(store), 1)

    def test_a_new_change_forgets_what_was_undone(self):
        store = stored(rows=[("b", (1,)), ("b", (2,))])
        store.undo()
        store.add("b", (3,))
        self.assertEqual(told_error(store.redo), (NothingToUndo, 1))
        self.assertEqual([store.undo(many=2), len(store)], [0, 0])
        self.assertEqual([store.redo(many=2), store.database["b"]], [2, ((1,), (3,))])

    def test_changes_by_which_all_stays_equal_count(self):
        store = stored(rows=[("a", (7, 2))])
        self.assertEqual([store.put("a", BY), store.resize(3)], [(), ()])
        self.assertEqual([store.undo(), store.undo(), store.undo()], [2, 1, 0])

    def test_a_refused_change_keeps_what_can_be_redone(self):
        store = stored(rows=[("a", (7, 2)), ("b", (2,))])
        store.undo()
        for call in (lambda: store.add("a", (7, 3)), lambda: store.remove("b", (9,)), lambda: store.put("a", None),
                     lambda: store.resize(0), lambda: store.undo(many=9), lambda: store.redo(many=9),
                     lambda: store.put("a", ("by", "u", ("x",)))):
            self.assertIsNotNone(told_error(call))
        self.assertEqual([store.redo(), store.database["b"]], [2, ((2,),)])

    def test_moves(self):
        store = stored(rows=[("a", (7, 2)), ("c", (7, 0))])
        store.resize(2)
        store.resize(5)
        store.undo(many=2)
        self.assertEqual(store.moves, (("a", (7, 2), (2,), (1,)), ("c", (7, 0), (2,), (1,))))
        store.undo()
        self.assertEqual(store.moves, (("c", (7, 0), (1,), ()),))
        store.redo(many=3)
        self.assertEqual(store.moves, (("a", (7, 2), (1,), (2,)), ("c", (7, 0), (), (2,))))
        store.undo(many=0)
        self.assertEqual(store.moves, ())

    def test_lone_rows_come_back_to_their_nodes(self):
        store = stored(free(b=(ANY,)), nodes=3)
        store.add("b", (1,), node=2)
        store.resize(2)
        store.put("b", ALL)
        store.put("b", ANY)
        self.assertEqual(store.case().lone, {("b", (1,)): 0})
        self.assertEqual([store.undo(many=2), store.case().lone], [2, {("b", (1,)): 0}])
        self.assertEqual([store.undo(), store.case().lone], [1, {("b", (1,)): 2}])


class ValueTest(unittest.TestCase):
    def test_equality(self):
        store = shop()
        self.assertTrue(store == shop() and not store != shop())
        again = Store(Placement.of(shop_again(), FAR.rules), nodes=2, spreads={"t": (3,), "s": (1,)})
        for table, row in (("item", (9, 7)), ("cus", (1, 5)), ("ord", (1, 9, 3))):
            again.add(table, row)
        self.assertEqual(store, again)
        for other in (shop(3), Store(FAR, nodes=2, spreads={"s": (1,), "t": (3,)})):
            self.assertNotEqual(store, other)
        weights = Store(FAR, nodes=2, spreads={"s": (1,), "t": (5,)})
        for table, row in DAY.pairs():
            weights.add(table, row)
        self.assertEqual(store.case(), weights.case())
        self.assertNotEqual(store, weights)
        for value in odd_values():
            self.assertIs(store == value, False)
            self.assertIs(store != value, True)
        # What can be undone does not matter.
        store.resize(2)
        self.assertEqual(store, again)

    def test_stores_whose_cases_differ(self):
        def lone(rules=(ANY,), nodes=3, row=(1,), node=0):
            store = stored(free(b=rules), nodes=nodes)
            store.add("b", row, node=node)
            return store
        self.assertEqual(lone(), lone())
        for other in (lone(node=1), lone(row=(2,)), lone(nodes=4), lone((ANY, FIRST))):
            self.assertTrue(lone() != other and not lone() == other)
        # By another way to the same nodes.
        moved = lone(nodes=4, node=3)
        moved.resize(3)
        self.assertEqual(moved, lone())
        self.assertEqual(lone((ANY, FIRST), node=0).case().nodes_of("b", (1,)), lone().case().nodes_of("b", (1,)))

    def test_pairs_and_length(self):
        store = shop()
        self.assertEqual([("cus", (1, 5)) in store, ("cus", (1, 6)) in store, len(store)], [True, False, 3])
        for value in (*odd_values(), "cus", (1, 5), ("cus",), ("cus", [1, 5]), ("none", (1, 5)), ("cus", (True, 5)), ("cus", None)):
            self.assertIs(value in store, False)

    def test_cases_do_not_change(self):
        store = shop()
        case, database = store.case(), store.database
        store.remove("ord", (1, 9, 3))
        self.assertEqual([len(case), len(database), len(store)], [3, 3, 2])
        self.assertEqual(case, shop().case())

    def test_twins(self):
        store = shop()
        store.resize(3)
        store.undo()
        twin = store.twin()
        self.assertEqual([twin, twin.moves, twin.spreads], [store, store.moves, store.spreads])
        self.assertIsNot(twin, store)
        self.assertEqual([twin.redo(), twin.nodes, store.nodes], [4, 3, 2])
        self.assertEqual([twin.undo(many=4), len(twin), len(store)], [0, 0, 3])
        store.add("cus", (2, 2))
        self.assertEqual(told_error(store.redo), (NothingToUndo, 1))
        self.assertEqual([twin.redo(many=4), len(twin), twin.nodes], [4, 3, 3])
        self.assertEqual([store.undo(many=4), twin.undo(), twin.nodes], [0, 3, 2])


if __name__ == "__main__":
    unittest.main()
