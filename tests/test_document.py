"""All examples of the document, one after another."""

import doctest
import importlib
import unittest

from test_interface import INTERFACE

VALUES = '''
SHOP = Schema(
    {"cus": ("code", "town"), "item": ("code", "price"), "ord": ("code", "item", "no")},
    keys={"cus": (("code",),), "item": (("code",),), "ord": (("no",),)},
    references={"oc": ("ord", ("code",), "cus", ("code",)), "oi": ("ord", ("item",), "item", ("code",))})
NEAR = Placement(SHOP, cus=(("by", "s", ("code",)),), item=(("all",),), ord=(("with", "oc"),))
FAR = NEAR.with_rules("item", ("by", "t", ("code",)))
TOWNS = Query(SHOP, "distinct", Clause((("cus", ("c", "t")), ("item", ("i", 7)), ("ord", ("c", "i", "n"))), head=("t",)))
PRICES = Query(SHOP, "count", Clause((("item", ("i", "p")),), head=("p",)))
DAY = Database(SHOP, {"cus": ((1, 5),), "item": ((9, 7),), "ord": ((1, 9, 3),)})
SPLIT = Case(FAR, DAY, nodes=2, spreads={("s", (1,)): 0, ("t", (9,)): 1})
'''
EXAMPLES = r'''
>>> one, other = Answer("count", {(5,): 2, (1,): 1}), Answer("count", {(1,): -1, (7,): 4})
>>> [(one + other).pairs(), one[7,], combined("count", one, one)[5,], bool(one - one), str(one)]
[(((5,), 2), ((7,), 4)), 0, 4, False, 'count answer of 2 heads']

>>> [SHOP.columns_of("ord"), SHOP.keys_of("ord"), SHOP.references_of("ord"), SHOP.leads_to("ord", "item"), SHOP.leads_to("item", "ord")]
[('code', 'item', 'no'), (('no',),), ('oc', 'oi'), True, False]

>>> [DAY.parent_of("oi", (1, 9, 3)), DAY.children_of("cus", (1, 5)), DAY.closure_of(("item", (9, 7))).pairs()]
[(9, 7), (('ord', (1, 9, 3)),), (('item', (9, 7)),)]

>>> idle = Clause((("cus", ("c", "t")), ("item", ("i", "p"))), absences=(("ord", ("c", "i", "n")),), head=("c",))
>>> [idle.variables, idle.free, str(idle), idle.renamed({"c": "t", "t": "c", "x": "i"}).head]
[('c', 'i', 'p', 't'), ('n',), 'clause of 2 parts, 4 variables', ('t',)]

>>> ROWS = {"ord": ((2, 8, 4), (1, 9, 3)), "cus": ((1, 5), (2, 5)), "item": ((9, 7), (8, 7))}
>>> [answer_on(TOWNS, ROWS).pairs(), match_rows(TOWNS, 0, {"c": 0, "i": 0, "n": 1, "t": 2})]
[(((5,), 1),), (('cus', (0, 2)), ('item', (0, 7)), ('ord', (0, 0, 1)))]

>>> [FAR["item"], FAR.spreads, FAR.places_of(DAY, "ord", (1, 9, 3)), len(FAR), str(NEAR)]
[(('by', 't', ('code',)),), {'s': 1, 't': 1}, (('by', 's', (1,)),), 3, 'placement of 3 tables, 1 spreads']
>>> [place.common_places(DAY, ("cus", (1, 5)), ("item", (9, 7)), ("ord", (1, 9, 3))) for place in (NEAR, FAR)]
[(('by', 's', (1,)),), ()]

>>> [SPLIT.nodes_of("item", (9, 7)), SPLIT.rows_at(0), SPLIT.difference(TOWNS), str(SPLIT)]
[(1,), {'cus': ((1, 5),), 'item': (), 'ord': ((1, 9, 3),)}, {(5,): (0, 1)}, 'case of 2 nodes, 3 rows']
>>> [is_counterexample(FAR, TOWNS, SPLIT), Case.single(FAR, DAY).is_right(TOWNS), Case.single(NEAR, DAY).with_nodes(3)(PRICES).pairs()]
[True, True, (((7,), 3),)]

>>> found = pattern_of(PRICES, 0, DAY, {"i": 9, "p": 7})
>>> [found.match, found.fresh, found.database.pairs()]
[{'i': 100000, 'p': 10000000000}, (100000, 10000000000), (('item', (100000, 10000000000)),)]

>>> [len(list(small_cases(NEAR, TOWNS))), len(list(small_cases(NEAR, PRICES)))]
[52, 4]

>>> [is_right_for(FAR, TOWNS), len(certificate_of(FAR, PRICES)), faults(SPLIT, TOWNS), Verdict(NEAR, PRICES).kinds]
[False, 4, {(5,): 'lost'}, {'changed': 2, 'invented': 0, 'lost': 0}]

>>> THREE = Query(SHOP, "distinct", Clause((("cus", (3, "t")),), head=("t",)))
>>> [routes(NEAR, THREE), routes(NEAR, TOWNS), asked(SPLIT, (("by", "t", (9,)),))]
[((('by', 's', (3,)),),), (), (0, 1)]

>>> late = DAY.with_row("cus", (2, 5)).with_row("ord", (2, 9, 4))
>>> wide = Case(FAR, late, nodes=3, spreads={("s", (1,)): 0, ("s", (2,)): 1, ("t", (9,)): 2})
>>> [is_tight(TOWNS, SPLIT), is_tight(TOWNS, wide), len(tightened(TOWNS, wide))]
[True, False, 3]
>>> [subcase(wide, ("ord", (1, 9, 3))).database == DAY, small_case_of(TOWNS, wide).database["item"]]
[True, ((8000000000000000, 7),)]

>>> SIDES = Schema({"a": ("k",), "b": ("k",), "c": ("k",)}, keys={"a": (("k",),), "b": (("k",),)}, references={"ca": ("c", ("k",), "a", ("k",)), "cb": ("c", ("k",), "b", ("k",))})
>>> TWICE = Placement(SIDES, a=(("by", "s", ("k",)),), b=(("by", "t", ("k",)),), c=(("by", "s", ("k",)), ("by", "t", ("k",))))
>>> SUMS = Query(SIDES, "count", Clause((("c", ("k",)),)), Clause((("a", ("k",)), ("b", ("k",)), ("c", ("k",)))))
>>> [gap_basis(TWICE, SUMS), corrections(TWICE, SUMS), error_step(TWICE, SUMS, (2, -4))]
[((1, -1),), ((1, 1),), 6]

>>> [is_noticed(NEAR, ("reference", "oi")), is_noticed(FAR, ("reference", "oi"))]
[True, False]
>>> answer_on(reference_check(SHOP, "oi"), {"ord": ((1, 9, 3),)}).pairs()
(((), 1),)

>>> kinds = {"cus": ((0, FAR["cus"]),), "item": ((0, FAR["item"]), (5, NEAR["item"])), "ord": ((0, FAR["ord"]),)}
>>> [cheapest(SHOP, kinds, TOWNS) == (5, NEAR), cheapest(SHOP, kinds, PRICES) == (0, FAR), cheapest(SHOP, kinds, PRICES, TOWNS)]
[True, True, None]

>>> store = Store(FAR, nodes=2, spreads={"s": (1,), "t": (3,)})
>>> [store.add("cus", (1, 5)), len(store.add("item", (9, 7))), len(store.add("ord", (1, 9, 3)))]
[(('cus', (1, 5), (), (1,)),), 1, 1]
>>> [store.ask(TOWNS).pairs(), store.resize(3), store.ask(TOWNS).pairs(), store.undo()]
[(((5,), 1),), (('item', (9, 7), (1,), (0,)),), (), 3]

>>> write_case(SPLIT).split("\n")
['nodes 2', 'row cus 1 5', 'row item 9 7', 'row ord 1 9 3', 'spread s 1 = 0', 'spread t 9 = 1']

>>> shell = Shell(write_schema(SHOP), write_placement(FAR), nodes=2)
>>> [shell("add cus 1 5"), shell("add item 9 7"), shell("nodes"), shell("ask count; clause p; part item i p"), shell("nodes 3")]
['cus 1 5: none -> 1', 'item 9 7: none -> 1', ' 0    0\n 1    2', '7 = 1', 'item 9 7: 1 -> 0']
'''


def names():
    """All names of the interface."""
    return {text.partition("(")[0]: getattr(importlib.import_module(module), text.partition("(")[0])
            for module, listed in INTERFACE.items() for text in listed}


class ExamplesTest(unittest.TestCase):
    def test_examples(self):
        told = names()
        exec(VALUES, told)
        examples = doctest.DocTestParser().get_examples(EXAMPLES)
        self.assertEqual(len(examples), 36)
        for example in examples:
            if example.want:
                self.assertEqual(repr(eval(example.source, told)), example.want.rstrip("\n"), example.source)
            else:
                exec(example.source, told)


if __name__ == "__main__":
    unittest.main()
