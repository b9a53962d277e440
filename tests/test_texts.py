"""[17.1] to [17.4] and the names of stage 17."""

import unittest

from dealtrows.ask.queries import Clause, Query
from dealtrows.base.databases import Database
from dealtrows.base.schemas import Schema
from dealtrows.deal.cases import Case
from dealtrows.deal.placements import Placement
from dealtrows.errors import BrokenConstraint, InvalidCase, InvalidClause, InvalidDatabase, InvalidNumber, InvalidPlacement
from dealtrows.errors import InvalidQuery, InvalidRule, InvalidSchema, ParseError, TooMany
from dealtrows.text.texts import read_case, read_database, read_placement, read_query, read_schema
from dealtrows.text.texts import write_case, write_database, write_placement, write_query, write_schema
from samples import DAY, FAR, IDLE, NEAR, PRICES, SHOP, SIXTY, SIXTY_ONE, SPLIT, TOWNS, case_with, odd_but, odd_values
from samples import shop_again, told_error

ALL, FIRST, ANY = ("all",), ("first",), ("any",)
SHOP_TEXT = """table cus code town
table item code price
table ord code item no
key cus code
key item code
key ord no
reference oc ord code = cus code
reference oi ord item = item code"""
NEAR_TEXT = "cus: by s code\nitem: all\nord: with oc"
CASE_TEXT = "nodes 2\nrow cus 1 5\nrow item 9 7\nrow ord 1 9 3\nspread s 1 = 0\nspread t 9 = 1"
IDLE_TEXT = "sum\nclause c\npart cus c t\npart item i p\ntest c != i\ntest 3 = p\nabsent ord c i n\nsum p"
# Names that are words of the texts.
WORDS = Schema(
    {"table": ("absent", "key"), "key": ("clause", "row"), "row": ("by", "part"), "all": ("sum",)},
    keys={"table": (("absent",),), "row": (("by",), ("by", "part"))},
    references={"key": ("key", ("row",), "table", ("absent",)), "table": ("row", ("part",), "table", ("absent",))})
WORDS_PLACE = Placement.of(WORDS, {"table": (ANY, ("by", "with", ("key", "absent"))), "key": (("with", "key"),),
                                   "row": (("by", "all", ("part",)), ("with", "table")), "all": (FIRST,)})
WORDS_QUERY = Query(WORDS, "sum", Clause(
    (("table", ("test", "sum")), ("all", ("all",))), tests=(("sum", "!=", "test"), ("all", "=", -3)),
    absences=(("key", ("clause", "test")),), head=("sum", "sum"), summed="all"), Clause(
    (("table", (0, "part")),), head=("part", "part"), summed=-7))
WORDS_DAY = Database(WORDS, {"table": ((-SIXTY, 0), (SIXTY, -1)), "key": ((5, SIXTY),), "row": ((0, -SIXTY),), "all": ((0,),)})
READERS = (lambda text: read_schema(text), lambda text: read_query(SHOP, text), lambda text: read_placement(SHOP, text),
           lambda text: read_database(SHOP, text), lambda text: read_case(FAR, text))
GOOD = (SHOP_TEXT, IDLE_TEXT, NEAR_TEXT, "row cus 1 5\nrow item 9 7\nrow ord 1 9 3", CASE_TEXT)


def words_case():
    places = {("any", "table", (SIXTY, -1)): 2, ("by", "all", (-SIXTY,)): 1}
    return case_with(WORDS_PLACE, WORDS_DAY.rows, 3, places)


class BothTest(unittest.TestCase):
    def check(self, value, write, read, *given):
        text = write(value)
        self.assertEqual(read(*given, text), value)
        self.assertEqual(write(read(*given, text)), text)
        return text

    def test_schemas(self):
        self.assertEqual(self.check(SHOP, write_schema, read_schema), SHOP_TEXT)
        self.assertEqual(self.check(Schema({"t": ("a",)}), write_schema, read_schema), "table t a")
        self.assertEqual(self.check(WORDS, write_schema, read_schema), "\n".join([
            "table all sum", "table key clause row", "table row by part", "table table absent key", "key row by",
            "key row by part", "key table absent", "reference key key row = table absent",
            "reference table row part = table absent"]))
        two = Schema({"a": ("x", "y", "z"), "b": ("k", "l")}, keys={"b": (("k", "l"),)},
                     references={"ab": ("a", ("z", "x"), "b", ("k", "l"))})
        self.assertEqual(self.check(two, write_schema, read_schema).split("\n")[-1], "reference ab a z x = b k l")
        self.check(two.without_reference("ab"), write_schema, read_schema)

    def test_queries(self):
        idle = Clause(IDLE.parts, tests=(("c", "!=", "i"), (3, "=", "p")), absences=IDLE.absences, head=("c",), summed="p")
        self.assertEqual(self.check(Query(SHOP, "sum", idle), write_query, read_query, SHOP), IDLE_TEXT)
        self.assertEqual(self.check(TOWNS, write_query, read_query, SHOP),
                         "distinct\nclause t\npart cus c t\npart item i 7\npart ord c i n")
        self.assertEqual(self.check(PRICES + PRICES.only(0), write_query, read_query, SHOP),
                         "count\nclause p\npart item i p\nclause p\npart item i p")
        self.assertEqual(self.check(Query(SHOP, "count", Clause((("item", (-5, 10 ** 20 - 1)),))), write_query, read_query, SHOP),
                         "count\nclause\npart item -5 99999999999999999999")
        self.assertEqual(self.check(WORDS_QUERY, write_query, read_query, WORDS), "\n".join([
            "sum", "clause sum sum", "part table test sum", "part all all", "test sum != test", "test all = -3",
            "absent key clause test", "sum all", "clause part part", "part table 0 part", "sum -7"]))
        self.check(Query(SHOP, "distinct", IDLE, IDLE, IDLE), write_query, read_query, SHOP)

    def test_placements(self):
        self.assertEqual(self.check(NEAR, write_placement, read_placement, SHOP), NEAR_TEXT)
        two = FAR.with_rules("ord", ANY, ("by", "u", ("item", "code")))
        self.assertEqual(self.check(two, write_placement, read_placement, SHOP),
                         "cus: by s code\nitem: by t code\nord: any, by u item code")
        self.assertEqual(self.check(WORDS_PLACE, write_placement, read_placement, WORDS),
                         "all: first\nkey: with key\nrow: by all part, with table\ntable: any, by with key absent")

    def test_databases(self):
        self.assertEqual(self.check(DAY, write_database, read_database, SHOP), GOOD[3])
        self.assertEqual(self.check(Database(SHOP), write_database, read_database, SHOP), "")
        self.assertEqual(self.check(WORDS_DAY, write_database, read_database, WORDS), "\n".join([
            "row all 0", f"row key 5 {SIXTY}", f"row row 0 -{SIXTY}", f"row table -{SIXTY} 0", f"row table {SIXTY} -1"]))

    def test_cases(self):
        self.assertEqual(self.check(SPLIT, write_case, read_case, FAR), CASE_TEXT)
        self.assertEqual(self.check(Case(NEAR, Database(SHOP), nodes=9), write_case, read_case, NEAR), "nodes 9")
        self.assertEqual(self.check(words_case(), write_case, read_case, WORDS_PLACE), "\n".join([
            "nodes 3", *write_database(WORDS_DAY).split("\n"), f"spread all -{SIXTY} = 1", f"spread with -1 {SIXTY} = 0",
            f"spread with 0 -{SIXTY} = 0", f"lone table -{SIXTY} 0 = 0", f"lone table {SIXTY} -1 = 2"]))

    def test_equal_schemas_and_placements(self):
        self.assertEqual(read_query(shop_again(), write_query(TOWNS)), TOWNS)
        self.assertEqual(read_case(Placement.of(shop_again(), FAR.rules), CASE_TEXT), SPLIT)


class ErrorsTest(unittest.TestCase):
    def test_writers(self):
        for write, kind, error in ((write_schema, Schema, InvalidSchema), (write_query, Query, InvalidQuery),
                                   (write_placement, Placement, InvalidPlacement), (write_case, Case, InvalidCase),
                                   (write_database, Database, InvalidDatabase)):
            for value in odd_but(kind):
                self.assertEqual(told_error(write, value), (error,))

    def test_first_parameters(self):
        for read in (read_query, read_placement, read_database):
            for value in odd_but(Schema):
                self.assertEqual(told_error(read, value, None), (InvalidSchema,))
        for value in odd_but(Placement):
            self.assertEqual(told_error(read_case, value, None), (InvalidPlacement,))

    def test_what_is_no_string(self):
        for read in READERS:
            for value in (*odd_but(str), [SHOP_TEXT], b"row cus 1 5"):
                self.assertEqual(told_error(read, value), (ParseError, None))

    def test_empty_lines_and_spaces(self):
        for read, text in zip(READERS, GOOD):
            self.assertIsNone(told_error(read, text))
            lines = text.split("\n")
            for at in range(len(lines)):
                wrong = [lines[at].replace(" ", "  ", 1) if " " in lines[at] else f" {lines[at]}", lines[at] + " ",
                         f" {lines[at]}", lines[at] + "\r", lines[at].upper() + "A", lines[at] + "\t", lines[at] + ",", ""]
                for line in wrong:
                    spoiled = "\n".join([*lines[:at], line, *lines[at + 1:]])
                    self.assertEqual(told_error(read, spoiled), (ParseError, at), spoiled)
                self.assertEqual(told_error(read, "\n".join([*lines[:at], "", *lines[at:]])), (ParseError, at))
            self.assertEqual(told_error(read, text + "\n"), (ParseError, len(lines)))
            self.assertEqual(told_error(read, "\n" + text), (ParseError, 0))
            self.assertEqual(told_error(read, " "), (ParseError, 0))
            self.assertEqual(told_error(read, "\n"), (ParseError, 0))
            if read is not READERS[3]:
                self.assertEqual(told_error(read, ""), (ParseError, 0))
        self.assertEqual(read_database(SHOP, ""), Database(SHOP))

    def test_lines_twice_and_in_another_order(self):
        for read, text in zip(READERS, GOOD):
            lines = text.split("\n")
            for at in range(1, len(lines)):
                twice = [*lines[:at + 1], *lines[at:]]
                if read is not READERS[1] or lines[at].split(" ")[0] == "sum":
                    self.assertEqual(told_error(read, "\n".join(twice)), (ParseError, at + 1), twice)
                turned = [*lines[:at - 1], lines[at], lines[at - 1], *lines[at + 1:]]
                same_kind = lines[at].split(" ")[0] == lines[at - 1].split(" ")[0]
                if read is not READERS[1] or not same_kind:
                    found = told_error(read, "\n".join(turned))
                    self.assertEqual(found[0], ParseError, turned)
                    self.assertIn(found[1], (at - 1, at))

    def test_missing_lines_are_left_to_the_classes(self):
        lines = SHOP_TEXT.split("\n")
        for at in range(3):
            self.assertEqual(told_error(read_schema, "\n".join([*lines[:at], *lines[at + 1:]])), (InvalidSchema,))
        self.assertEqual(told_error(read_schema, "\n".join([*lines[:3], *lines[4:]])), (InvalidSchema,))
        self.assertIsNone(told_error(read_schema, "\n".join([*lines[:5], *lines[6:]])))
        for at in range(3):
            left = NEAR_TEXT.split("\n")
            del left[at]
            self.assertEqual(told_error(read_placement, SHOP, "\n".join(left)), (InvalidPlacement,))
        self.assertEqual(told_error(read_query, SHOP, "count"), (InvalidQuery,))
        self.assertEqual(told_error(read_database, SHOP, "row ord 1 9 3"), (BrokenConstraint, ("reference", "oc")))
        self.assertEqual(told_error(read_case, FAR, CASE_TEXT.replace("\nspread t 9 = 1", "")), (InvalidCase,))


def wrong_lines(self, read, before, lines, after=()):
    """Check that each of some lines is wrong where it stands."""
    for line in lines:
        text = "\n".join([*before, line, *after])
        self.assertEqual(told_error(read, text), (ParseError, len(before)), text)


class SchemaTextTest(unittest.TestCase):
    def test_lines(self):
        wrong_lines(self, read_schema, ["table a x"], [
            "table", "table B x", "table b X", "table b toolongname", "table b 1", "tables b x", "Table b x", "table b x =",
            "key", "key A x", "key a 1", "reference", "reference ab a x b x", "reference ab a x = ", "reference ab a x =",
            "reference ab = b x", "reference = b x", "reference ab a x = b x =", "reference ab a = x = b x",
            "reference AB a x = b x", "reference ab a 1 = b x", "reference ab a x = B x", "row a 1", "b: all", "distinct"])

    def test_what_may_not_come_after_the_lines_before_it(self):
        for before, line in (
                (["table b x"], "table a x"), (["table a x"], "table a x"), (["table a x"], "table a y"),
                (["table a x", "key a x"], "table b x"), (["table a x y", "key a y"], "key a x"),
                (["table a x", "table b x", "key b x"], "key a x"), (["table a x", "key a x"], "key a x"),
                (["table a x", "table b x", "key b x", "reference ab a x = b x"], "key c x"),
                (["table a x", "table b x", "key b x", "reference ab a x = b x"], "table c x"),
                (["table a x", "table b x", "key b x", "reference ab a x = b x"], "reference ab a x = b x"),
                (["table a x", "table b x", "key b x", "reference ab a x = b x"], "reference aa a x = b x")):
            wrong_lines(self, read_schema, before, [line])

    def test_the_rest_is_left_to_the_class(self):
        for text in ("table a", "key a x", "reference ab a x = b x", "table a y x", "table a x x", "table a x\nkey a",
                     "table a x\nkey a y", "table a x\nkey b x", "table a v w x y z", "table a x\nreference aa a = a",
                     "table a x\ntable b x\nkey b x\nreference ab a = b x", "table a x\ntable b x\nkey b x\nreference ab a x = b",
                     "table a x\ntable b x\nreference ab a x = b x", "table a x y z\nkey a x\nkey a y\nkey a z",
                     "\n".join(f"table {name} x" for name in "abcdef")):
            self.assertEqual(told_error(read_schema, text), (InvalidSchema,), text)

    def test_the_first_wrong_line(self):
        self.assertEqual(told_error(read_schema, "table a\nkey b c\nTable\nkey"), (ParseError, 2))


class QueryTextTest(unittest.TestCase):
    def test_the_form(self):
        for line in ("Count", "sums", "count 1", "count ", " count", "clause", "sum p", "part item i p", "count\r"):
            self.assertEqual(told_error(read_query, SHOP, f"{line}\nclause\npart item i p"), (ParseError, 0))
        self.assertEqual(told_error(read_query, SHOP, "clause\npart item i p"), (ParseError, 0))

    def test_lines(self):
        wrong_lines(self, lambda text: read_query(SHOP, text), ["count", "clause", "part item i p"], [
            "part", "part item i P", "part Item i p", "part item i toolongname", "part 7 i p", "part item 01 p", "part item -0 p",
            "part item +1 p", "part item 1.0 p", f"part item {SIXTY_ONE} p", f"part item -{SIXTY_ONE} p", "part item - p",
            "part item i != p", "test", "test i", "test i =", "test i = p c", "test = = i", "test i == p", "test i < p",
            "test i != 007", "test I = p", "absent", "absent 1 x", "absent item I p", "sum", "sum i p", "sum I", "sum 01",
            "clause 1", "clause I", "clause -", "count", "distinct", "row item 1 2", "head i", "tests i = p"])

    def test_what_may_not_come_after_the_lines_before_it(self):
        def read(text):
            return read_query(SHOP, text)
        for kind in ("part item i p", "test i = p", "absent item i p", "sum p"):
            wrong_lines(self, read, ["count"], [kind], ["clause"])
        order = ["clause", "part item i p", "test i = p", "absent ord c i p", "sum p"]
        for at in range(2, 5):
            for line in order[1:at]:
                wrong_lines(self, read, ["sum", *order[:at], order[at]], [line])
        wrong_lines(self, read, ["sum", *order[:2], "sum p"], ["sum p", "sum i"], ["clause", "part item i p"])
        # Behind each line another clause may begin; how many there are is left to the class.
        for at in range(1, 6):
            self.assertNotEqual(told_error(read, "\n".join(["sum", *order[:at], *order]))[0], ParseError)

    def test_parts_and_tests_keep_their_order(self):
        text = "count\nclause\npart item j q\npart item i p\npart item j q\ntest i = p\ntest 3 != 2\ntest i = p"
        found = read_query(SHOP, text)
        self.assertEqual(found.clauses[0].parts, (("item", ("j", "q")), ("item", ("i", "p")), ("item", ("j", "q"))))
        self.assertEqual([found.clauses[0].tests[1], write_query(found)], [(3, "!=", 2), text])

    def test_the_rest_is_left_to_the_classes(self):
        for text, error in (
                ("count\nclause", InvalidClause), ("count\nclause\ntest i = p", InvalidClause),
                ("count\nclause x\npart item i p", InvalidClause), ("count\nclause i i i i\npart item i p", InvalidClause),
                ("count\nclause\npart item", InvalidClause), ("count\nclause\npart item a b c d e", InvalidClause),
                ("count\nclause\npart item i 123456789012345678901", InvalidClause),
                (f"count\nclause\npart item i {SIXTY}", InvalidClause), (f"sum\nclause\npart item i p\nsum -{SIXTY}", InvalidClause),
                ("count\nclause\npart item i p\nsum x", InvalidClause), ("count\nclause\npart item i p\ntest x = 1", InvalidClause),
                ("count\nclause\npart item i p\nabsent ord", InvalidClause),
                ("count\nclause\npart item i p\nabsent ord a a b", InvalidClause),
                ("count\nclause" + "\npart item i p" * 4, InvalidClause), ("count\nclause\npart item i p" + "\ntest 1 = 1" * 5,
                                                                         InvalidClause),
                ("count\nclause\npart item i", InvalidQuery), ("count\nclause\npart none i p", InvalidQuery),
                ("count\nclause\npart item i p\nsum p", InvalidQuery), ("sum\nclause\npart item i p", InvalidQuery),
                ("count" + "\nclause\npart item i p" * 4, InvalidQuery), ("count\nclause\npart item i p\nclause i\npart item i p",
                                                                        InvalidQuery),
                ("count\nclause\npart item i p\nabsent ord c i n", InvalidQuery), ("count\nclause\npart item 1 2\npart item 3 4\n"
                                                                                  "part item 5 p", InvalidQuery)):
            self.assertEqual(told_error(read_query, SHOP, text), (error,), text)

    def test_errors_of_clauses_come_first(self):
        # The first clause fits no table, the second one is none.
        self.assertEqual(told_error(read_query, SHOP, "count\nclause\npart none i\nclause"), (InvalidClause,))
        self.assertEqual(told_error(read_query, SHOP, "count\nclause\npart none i\nclause x"), (InvalidClause,))
        self.assertEqual(told_error(read_query, SHOP, "count\nclause\nclause\nparts"), (ParseError, 3))


class PlacementTextTest(unittest.TestCase):
    def test_lines(self):
        wrong_lines(self, lambda text: read_placement(SHOP, text), ["cus: all"], [
            "item", "item:", "item: ", "item:all", "item : all", "Item: all", "item: ALL", "item: all,", "item: all,any", "item: , all",
            "item: any , first", "item: any,  first", "item: by", "item: by S", "item: by s Code", "item: by s 1", "item: by s code,",
            "item: with", "item: with oc oi", "item: with OC", "item: all all", "item: any first", "item: first, any",
            "item: any, any", "item: with oc, any", "item: by t code, by s code", "item: all: any", "toolongname: all", ": all",
            "item: none", "item: by s code; any", "table item code"])

    def test_tables_ascend(self):
        for line in ("cus: all", "cus: any", "a: all"):
            wrong_lines(self, lambda text: read_placement(SHOP, text), ["cus: all"], [line])

    def test_the_rest_is_left_to_the_class(self):
        for line, error in (("item: all, any", InvalidRule), ("item: any, first, with oc", InvalidRule), ("item: by s", InvalidRule),
                            ("item: with oc", InvalidRule), ("item: by s no", InvalidRule), ("item: by s code code", InvalidRule),
                            ("item: by s code price", InvalidPlacement), ("items: all", InvalidPlacement)):
            self.assertEqual(told_error(read_placement, SHOP, f"cus: by s code\n{line}\nord: all"), (error,))
        self.assertEqual(told_error(read_placement, SHOP, "a: all"), (InvalidPlacement,))
        self.assertEqual(told_error(read_placement, SHOP, f"{NEAR_TEXT}\nzoo: all"), (InvalidPlacement,))


class DatabaseTextTest(unittest.TestCase):
    def test_lines(self):
        wrong_lines(self, lambda text: read_database(SHOP, text), ["row cus 1 5"], [
            "row", "row Item 1 2", "row item 1 p", "row item 01 2", "row item -0 2", "row item +1 2", "row item 1.0 2", "row item 1, 2",
            f"row item {SIXTY_ONE} 2", f"row item 1 -{SIXTY_ONE}", "row item - 2", "row item --1 2", "row item 1 2 =", "item 1 2",
            "Row item 1 2", "rows item 1 2", "row 1 2", "nodes 1", "lone item 1 2 = 0", "row cus 1 5", "row cus 0 9", "row a 1 5",
            "row cus 1 4", "row cus 1", "row cus", "row item 1 2_0", "row item 1 \u0661", "row item 1 \u00b2"])
        self.assertEqual(told_error(read_database, SHOP, f"row cus 1 {SIXTY}"), None)
        self.assertEqual(read_database(SHOP, "row cus -10 0\nrow cus 9 -5").pairs(), (("cus", (-10, 0)), ("cus", (9, -5))))

    def test_the_rest_is_left_to_the_class(self):
        for text, error in (("row cus", (InvalidDatabase,)), ("row cus 1", (InvalidDatabase,)), ("row cus 1 2 3", (InvalidDatabase,)),
                            ("row none 1", (InvalidDatabase,)), ("row cus 1 2 3 4 5", (InvalidDatabase,)),
                            ("row cus 1 5\nrow cus 1 6", (BrokenConstraint, ("key", "cus", ("code",)))),
                            ("row ord 1 9 3", (BrokenConstraint, ("reference", "oc")))):
            self.assertEqual(told_error(read_database, SHOP, text), error)
        many = [f"row cus {number} 0" for number in range(101)]
        self.assertEqual(len(read_database(SHOP, "\n".join(many[:100]))), 100)
        self.assertEqual(told_error(read_database, SHOP, "\n".join(many)), (TooMany, 100))


class CaseTextTest(unittest.TestCase):
    def read(self, text):
        return read_case(FAR, text)

    def test_the_nodes(self):
        for line in ("nodes", "nodes 02", "nodes 2 3", "nodes two", f"nodes {SIXTY_ONE}", "node 2", "Nodes 2", "row cus 1 5", "nodes -0"):
            self.assertEqual(told_error(self.read, f"{line}\nrow cus 1 5"), (ParseError, 0))
        for nodes in (0, 10, -1, SIXTY):
            self.assertEqual(told_error(self.read, f"nodes {nodes}"), (InvalidNumber, nodes))
        for line in ("nodes 2", "nodes 3", "nodes 1"):
            wrong_lines(self, self.read, ["nodes 2"], [line])
            wrong_lines(self, self.read, ["nodes 2", "row cus 1 5"], [line])

    def test_lines(self):
        wrong_lines(self, self.read, ["nodes 2", "row cus 1 5"], [
            "spread", "spread s", "spread s 1", "spread s 1 =", "spread s 1 = 0 0", "spread s 1 = = 0", "spread S 1 = 0", "spread 1 = 0",
            "spread s x = 0", "spread s 1 = x", "spread s 01 = 0", "spread s 1 = 00", f"spread s 1 = {SIXTY_ONE}", "spread = 0",
            "lone", "lone ord 1 9 3", "lone ord 1 9 3 = x", "lone Ord 1 9 3 = 0", "lone = 0", "lone ord 1 9 3 0", "Lone ord 1 9 3 = 0",
            f"lone ord {SIXTY_ONE} = 0", "row cus 1 5", "row cus 1 4", "place s 1 = 0", "spread s 1 =0"])

    def test_order(self):
        for before, line in ((["spread s 1 = 0"], "row item 9 7"), (["lone ord 1 9 3 = 0"], "row item 9 7"),
                             (["lone ord 1 9 3 = 0"], "spread s 1 = 0"), (["spread s 1 = 0"], "spread s 1 = 0"),
                             (["spread s 1 = 0"], "spread s 1 = 1"), (["spread s 1 = 0"], "spread s 0 = 1"),
                             (["spread t 9 = 0"], "spread s 10 = 1"), (["lone ord 1 9 3 = 0"], "lone ord 1 9 3 = 1"),
                             (["lone ord 1 9 3 = 0"], "lone item 1 9 = 1")):
            wrong_lines(self, self.read, ["nodes 2", *before], [line])

    def test_the_rest_is_left_to_the_classes(self):
        for text, error in (
                ("nodes 2\nrow cus 1 5", (InvalidCase,)), ("nodes 2\nspread s 1 = 0", (InvalidCase,)),
                ("nodes 2\nrow cus 1 5\nspread s 1 = 2", (InvalidCase,)), ("nodes 2\nrow cus 1 5\nspread s 1 = -1", (InvalidCase,)),
                (f"nodes 2\nrow cus 1 5\nspread s 1 = {SIXTY}", (InvalidCase,)), ("nodes 2\nrow cus 1 5\nspread s = 0", (InvalidCase,)),
                ("nodes 2\nrow cus 1 5\nspread s 1 = 0\nlone cus 1 5 = 0", (InvalidCase,)), ("nodes 1\nlone cus = 0", (InvalidCase,)),
                ("nodes 2\nrow cus 1", (InvalidDatabase,)), ("nodes 2\nrow ord 1 9 3", (BrokenConstraint, ("reference", "oc")))):
            self.assertEqual(told_error(self.read, text), error, text)

    def test_errors_of_databases_come_first(self):
        self.assertEqual(told_error(self.read, "nodes 0\nrow none 1\nspread s = 0"), (InvalidDatabase,))
        self.assertEqual(told_error(self.read, "nodes 0\nrow cus 1 5\nrow cus 1 6"),
                         (BrokenConstraint, ("key", "cus", ("code",))))
        self.assertEqual(told_error(self.read, "nodes 0\nrow cus 1 5\nspread s = 0"), (InvalidNumber, 0))
        self.assertEqual(told_error(self.read, "nodes 0\nrow none 1\nlone x"), (ParseError, 2))


if __name__ == "__main__":
    unittest.main()
