"""The names of stage 18."""

import unittest

from dealtrows.ask.queries import Query
from dealtrows.base.schemas import Schema
from dealtrows.deal.cases import is_counterexample
from dealtrows.deal.placements import Placement
from dealtrows.errors import InvalidNumber, InvalidPlacement, InvalidRule, InvalidSchema, NoNodes, ParseError
from dealtrows.live.store import Store
from dealtrows.text.shell import Shell
from dealtrows.text.texts import read_case, write_placement, write_query, write_schema
from samples import FAR, IDLE, NEAR, PRICES, SHOP, SIXTY, SIXTY_ONE, TOWNS, odd_values, told_error
from test_texts import SHOP_TEXT

ANY = ("any",)
BACK = FAR.with_rules("ord", ANY)
ONE_LINE = write_query(TOWNS).replace("\n", "; ")
MANY = "count; " + "; ".join(["clause", "part item a b", "part item c d", "part item e f"])
WIDE = "distinct; clause; part ord a b c; part ord d e f"


def shop(placement=FAR, nodes=2):
    shell = Shell(SHOP_TEXT, write_placement(placement), nodes=nodes)
    for line in ("add cus 1 5", "add item 9 7", "add ord 1 9 3"):
        shell(line)
    return shell


class ConstructorTest(unittest.TestCase):
    def test_stores(self):
        shell = Shell(SHOP_TEXT, write_placement(NEAR))
        self.assertEqual(shell.store(), Store(NEAR, spreads={"s": (1,)}))
        wide = Schema({"t": ("a", "b", "c", "d")})
        deal = Placement(wide, t=(("by", "u", ("d", "b")), ("by", "v", ("a", "b", "c", "d"))))
        store = Shell(write_schema(wide), write_placement(deal), nodes=9).store()
        self.assertEqual([store.spreads, store.nodes], [{"u": (1, 2), "v": (1, 2, 3, 4)}, 9])

    def test_errors(self):
        good = write_placement(NEAR)
        self.assertEqual(told_error(Shell, None, None, nodes=0), (ParseError, None))
        self.assertEqual(told_error(Shell, "", None, nodes=0), (ParseError, 0))
        self.assertEqual(told_error(Shell, "table a", None, nodes=0), (InvalidSchema,))
        self.assertEqual(told_error(Shell, SHOP_TEXT, None, nodes=0), (ParseError, None))
        self.assertEqual(told_error(Shell, SHOP_TEXT, "cus: all\nitem: al", nodes=0), (ParseError, 1))
        self.assertEqual(told_error(Shell, SHOP_TEXT, "cus: all", nodes=0), (InvalidPlacement,))
        self.assertEqual(told_error(Shell, SHOP_TEXT, good.replace("all", "all, any"), nodes=0), (InvalidRule,))
        for nodes in (0, -5):
            self.assertEqual(told_error(Shell, SHOP_TEXT, good, nodes=nodes), (NoNodes, nodes))
        for nodes in (10, True, None, "2"):
            self.assertEqual(told_error(Shell, SHOP_TEXT, good, nodes=nodes), (InvalidNumber, nodes))

    def test_twins(self):
        shell = shop()
        store = shell.store()
        store.resize(5)
        store.remove("ord", (1, 9, 3))
        self.assertEqual([shell.store().nodes, len(shell.store()), store.undo(many=5)], [2, 3, 0])
        self.assertEqual([shell("undo"), len(shell.store())], ["ord 1 9 3: 1 -> none", 2])


class CommandsTest(unittest.TestCase):
    def check(self, shell, *told):
        for line, text in told:
            self.assertEqual(shell(line), text, line)

    def test_add(self):
        self.check(shop(BACK.with_rules("item", ("all",))), ("add cus 3 0", "cus 3 0: none -> 1"), ("add item 2 -5", "item 2 -5: none -> 0 1"),
                   ("add ord 1 2 4 on 1", "ord 1 2 4: none -> 1"), ("add ord 1 2 5", "ord 1 2 5: none -> 0"),
                   (f"add cus {SIXTY} -{SIXTY}", f"cus {SIXTY} -{SIXTY}: none -> 1"),
                   ("add ord 1 2 4", "operation"), ("add cus 8 8 on 0", "operation"), ("add ord 1 2 6 on 2", "number 2"),
                   ("add ord 1 2 6 on -1", "number -1"), ("add ord 1 2", "row"), ("add ord 1 2 on 0", "row"), ("add nope 1", "unknown nope"),
                   ("add cus 1 6", "broken key cus code"), ("add ord 1 77 6", "broken reference oi"), ("add cus 3 1 on 5", "number 5"))

    def test_remove(self):
        self.check(shop(), ("remove cus 1 5", "broken reference oc"), ("remove ord 1 9 3", "ord 1 9 3: 1 -> none"),
                   ("remove cus 1 5", "cus 1 5: 1 -> none"), ("remove cus 1 5", "missing"), ("remove cus 1", "missing"),
                   ("remove zoo 1", "unknown zoo"), ("remove item 9 7", "item 9 7: 1 -> none"), ("nodes", " 0    0\n 1    0"))

    def test_put(self):
        self.check(shop(), ("put cus: by t code town", "rule"), ("put item: all", "item 9 7: 1 -> 0 1"), ("put item: all", "nothing"),
                   ("put ord: with oc, any", "ord 1 9 3: 1 -> 0 1"), ("put ord: any, with oc", "nothing"),
                   ("put cus: first", "cus 1 5: 1 -> 0\nord 1 9 3: 0 1 -> 0"), ("put ord: any, any", "rule"),
                   ("put ord: all, any", "rule"), ("put ord: any, first, with oc", "rule"), ("put ord: by s", "rule"),
                   ("put ord: by s town", "rule"), ("put ord: with no", "rule"), ("put cus: by t code town", "operation"),
                   ("put ord: by u code", "operation"), ("put item: by t code price", "operation"), ("put zoo: all", "unknown zoo"),
                   ("put ord: by s item, by t code", "ord 1 9 3: 0 -> 1"))

    def test_nodes(self):
        shell = shop()
        self.check(shell, ("nodes", " 0    0\n 1    3"), ("nodes 3", "item 9 7: 1 -> 0"), ("nodes", " 0    1\n 1    2\n 2    0"),
                   ("nodes 3", "nothing"), ("nodes 0", "number 0"), ("nodes -7", "number -7"), ("nodes 10", "number 10"),
                   (f"nodes {SIXTY}", f"number {SIXTY}"), ("nodes 9", "nothing"))
        self.assertEqual(len(shell("nodes").split("\n")), 9)

    def test_at(self):
        self.check(shop(FAR.with_rules("item", ("all",))), ("at 1", "cus 1 5\nitem 9 7\nord 1 9 3"), ("at 0", "item 9 7"),
                   ("at 2", "number 2"), ("at -1", "number -1"), ("remove ord 1 9 3", "ord 1 9 3: 1 -> none"),
                   ("remove item 9 7", "item 9 7: 0 1 -> none"), ("at 0", "nothing"))

    def test_undo(self):
        shell = shop()
        self.check(shell, ("redo", "undo"), ("undo", "ord 1 9 3: 1 -> none"), ("undo", "item 9 7: 1 -> none"),
                   ("redo", "item 9 7: none -> 1"), ("nodes 2", "nothing"), ("redo", "undo"), ("undo", "nothing"),
                   ("undo", "item 9 7: 1 -> none"), ("undo", "cus 1 5: 1 -> none"), ("undo", "undo"), ("redo", "cus 1 5: none -> 1"))

    def test_ask(self):
        shell = shop(nodes=3)
        self.check(shell, (f"ask {ONE_LINE}", "nothing"), (f"whole {ONE_LINE}", "5 = 1"), ("ask count; clause; part item i p", "= 1"),
                   ("ask count; clause p i p; part item i p", "7 9 7 = 1"), ("ask sum; clause; part item i p; sum -3", "= -3"))
        shell("add item -2 4")
        shell("put item: all")
        self.check(shell, ("ask sum; clause i; part item i p; sum p", "-2 = 12\n9 = 21"),
                   ("whole sum; clause i; part item i p; sum p", "-2 = 4\n9 = 7"),
                   ("ask count; clause; part item i 5", "nothing"), ("whole count; clause; part item i 5", "nothing"))

    def test_check(self):
        shell = shop()
        text = shell(f"check {ONE_LINE}")
        self.assertEqual(text.split("\n")[0], "wrong")
        self.assertTrue(is_counterexample(FAR, TOWNS, read_case(FAR, text.partition("\n")[2])))
        self.check(shell, ("check count; clause; part item i p", "right"), ("put item: all", "item 9 7: 1 -> 0 1"), (f"check {ONE_LINE}", "right"))
        text = shell("check count; clause; part item i p")
        near = FAR.with_rules("item", ("all",))
        self.assertTrue(is_counterexample(near, PRICES.only(0), read_case(near, text.partition("\n")[2])))

    def test_errors_of_queries(self):
        shell = shop()
        for word in ("ask", "whole", "check"):
            self.check(shell, (f"{word} count", "query"), (f"{word} count; clause", "query"), (f"{word} count; clause x; part item i p", "query"),
                       (f"{word} count; clause; part item i", "query"), (f"{word} sum; clause; part item i p", "query"),
                       (f"{word} count; clause; part item 123456789012345678901 p", "query"),
                       (f"{word} count; clause;part item i p", "what"), (f"{word} count;clause; part item i p", "what"),
                       (f"{word} count; clause; part item i p;", "what"), (f"{word} count; clause; part item i p; ", "what"),
                       (f"{word} count;  clause; part item i p", "what"), (f"{word}  count; clause; part item i p", "what"),
                       (f"{word} Count; clause; part item i p", "what"), (f"{word} count; part item i p", "what"),
                       (f"{word} count; clause; part item {SIXTY_ONE} p", "what"), (f"{word} count\nclause\npart item i p", "what"),
                       (f"{word}", "what"), (f"{word} ", "what"), (f"{word} ; count; clause; part item i p", "what"))

    def test_limits(self):
        shell = shop()
        for number in range(12):
            shell(f"add item {100 + number} 0")
        # The items lie on two nodes, so that a local answer has fewer matches.
        self.check(shell, (f"whole {MANY}", "many 2000"), (f"ask {MANY}", f"= {7 ** 3 + 6 ** 3}"), (f"check {WIDE}", "many 7"))
        shell("put item: first")
        self.check(shell, (f"ask {MANY}", "many 2000"))
        two = shop(FAR.with_rules("ord", ANY, ("with", "oc")))
        absent = write_query(Query(SHOP, "count", IDLE)).replace("\n", "; ")
        self.check(two, (f"check {absent}", "operation"))

    def test_a_hundred_rows(self):
        shell = Shell("table t a", "t: first")
        for number in range(100):
            self.assertEqual(shell(f"add t {number}"), f"t {number}: none -> 0")
        self.check(shell, ("add t 100", "many 100"), ("nodes", " 0  100"), ("add t 7", "operation"))

    def test_run(self):
        one, other = shop(), shop()
        for line in ("nodes", "nodes 3", "undo", "add cus 2 2", "what", f"ask {ONE_LINE}", "remove cus 1 5", None):
            self.assertEqual(one(line), other.run(line))
        self.assertEqual(one.store(), other.store())


class WhatTest(unittest.TestCase):
    def test_lines_that_are_no_commands(self):
        shell = shop(BACK)
        before = shell.store()
        wrong = ["", " ", "Add cus 2 2", "add", "add ", "add cus", "add cus ", "add 1 2", "add cus x", "add cus 2  2", "add cus 2 2 ", " add cus 2 2",
                 "add  cus 2 2", "add Cus 2 2", "add cus 02 2", "add cus -0 2", "add cus +2 2", f"add cus {SIXTY_ONE} 2", "add cus 2 2\n",
                 "add cus 2 2\nundo", "add ord 1 9 4 on", "add ord 1 9 4 on x", "add ord 1 9 4 on 01", "add ord 1 9 4 on 0 0", "add ord on 0",
                 "add ord 1 9 4 On 0", f"add ord 1 9 4 on {SIXTY_ONE}", "add on 0 on 0 on 0", "add ord 1 9 4 at 0", "remove", "remove cus",
                 "remove cus 1 5 on 0", "remove cus 1 5 ", f"remove cus 1 -{SIXTY_ONE}", "removes cus 1 5", "put", "put ", "put ord",
                 "put ord:", "put ord: ", "put ord:any", "put ord : any", "put ord any", "put Ord: any", "put ord: any,first", "put ord: any, ",
                 "put ord: any, none", "put ord: by", "put ord: with", "put  ord: any", "put ord: any ", "put ord: Any", "nodes ", "nodes x", "nodes 03",
                 "nodes 2 2", "nodes  3", f"nodes {SIXTY_ONE}", "node", "at", "at ", "at x", "at 0 0", "at 00", f"at {SIXTY_ONE}", "undo ", "undo 1",
                 " undo", "redo ", "redo 1", "Undo", "undos", "ask", "count; clause; part item i p", "case", "nothing", "what", "right", "undo\n"]
        for line in wrong:
            self.assertEqual(shell(line), "what", line)
            self.assertEqual(shell.run(line), "what", line)
        for value in odd_values():
            self.assertEqual(shell(value), "what")
        self.assertEqual(shell("redo"), "undo")
        self.assertEqual([shell.store(), shell.store().moves], [before, before.moves])
        self.assertEqual(shell.store().undo(many=3), 0)

    def test_refused_commands_change_nothing(self):
        shell = shop()
        shell("undo")
        before = shell.store()
        for line in ("add ord 1 9", "add cus 1 6", "add zoo 1", "add cus 9 9 on 0", "remove item 9 8", "put ord: by u code", "put ord: all, any",
                     "nodes 0", "nodes 10", "at 9", "ask count", f"check {WIDE}", f"check {ONE_LINE}", "nodes", "at 0", f"ask {ONE_LINE}"):
            shell(line)
            self.assertEqual([shell.store(), shell.store().moves], [before, before.moves])
        self.assertEqual([shell("redo"), shell("redo")], ["ord 1 9 3: none -> 1", "undo"])


if __name__ == "__main__":
    unittest.main()
