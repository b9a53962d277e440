"""[0.11], [0.12] and Clause of stage 4."""

import unittest

from dealtrows.ask import queries
from dealtrows.ask.queries import Clause
from dealtrows.errors import InvalidClause, InvalidOperation
from samples import IDLE, TWENTY, TWENTY_ONE, odd_values

PARTS = (("a", ("x", "y")), ("b", ("y", 3)))
WHOLE = Clause(PARTS, tests=(("x", "!=", "y"), ("y", "=", 7)), absences=(("c", ("x", "f", 1)), ("d", ("f", "g"))),
               head=("y", "x"), summed="x")


def parts(count):
    """So many parts with different variables."""
    return tuple([("a", (name,)) for name in "pqrstuvw"[:count]])


class ConstantsTest(unittest.TestCase):
    def test_constants(self):
        names = ("MAX_PARTS", "MAX_TESTS", "MAX_ABSENCES", "MAX_HEAD", "MAX_CLAUSES", "MAX_NAMED")
        self.assertEqual([getattr(queries, name) for name in names], [3, 4, 2, 3, 3, 4])


class LimitsTest(unittest.TestCase):
    def refuse(self, *args, **more):
        with self.assertRaises(InvalidClause, msg=(args, more)):
            Clause(*args, **more)

    def test_parts(self):
        for count in (1, 2, 3):
            self.assertEqual(Clause(parts(count)).parts, parts(count))
        self.refuse(())
        self.refuse(parts(4))

    def test_tests(self):
        for count in (0, 1, 4):
            self.assertEqual(len(Clause(PARTS, tests=(("x", "=", 1),) * count).tests), count)
        self.refuse(PARTS, tests=(("x", "=", 1),) * 5)

    def test_absences(self):
        for count in (0, 1, 2):
            self.assertEqual(len(Clause(PARTS, absences=(("c", ("f",)),) * count).absences), count)
        self.refuse(PARTS, absences=(("c", ("f",)),) * 3)

    def test_head(self):
        for head in ((), ("x",), ("x", "y"), ("x", "x"), ("x", "y", "x")):
            self.assertEqual(Clause(PARTS, head=head).head, head)
        self.refuse(PARTS, head=("x", "y", "x", "y"))

    def test_terms(self):
        for count in (1, 4):
            self.assertEqual(len(Clause((("a", (1,) * count),)).parts[0][1]), count)
            self.assertEqual(len(Clause(PARTS, absences=(("a", (1,) * count),)).absences[0][1]), count)
        for terms in ((), (1,) * 5):
            self.refuse((("a", terms),))
            self.refuse(PARTS, absences=(("a", terms),))

    def test_digits_of_integers(self):
        for number in (TWENTY, -TWENTY, 0):
            clause = Clause((("a", ("x", number)),), tests=(("x", "=", number), (number, "!=", "x")),
                            absences=(("b", (number,)),), summed=number)
            self.assertEqual(clause.summed, number)
        for number in (TWENTY_ONE, -TWENTY_ONE, 10 ** 60, 10 ** 99):
            self.refuse((("a", ("x", number)),))
            self.refuse(PARTS, tests=(("x", "=", number),))
            self.refuse(PARTS, tests=((number, "=", "x"),))
            self.refuse(PARTS, absences=(("b", (number,)),))
            self.refuse(PARTS, summed=number)

    def test_letters_of_names(self):
        eight, nine = "abcdefgh", "abcdefghi"
        clause = Clause(((eight, (eight,)),), tests=((eight, "=", 1),), absences=((eight, ("f",)),), head=(eight,))
        self.assertEqual(clause.variables, (eight,))
        for name in (nine, "", "A", "x1", "x y"):
            self.refuse(((name, ("x",)),))
            self.refuse((("a", (name,)),))
            self.refuse(PARTS, absences=((name, ("x",)),))
            self.refuse(PARTS, absences=(("c", (name,)),))
            self.refuse(PARTS, head=(name,))
            self.refuse(PARTS, summed=name)


class WrongTest(unittest.TestCase):
    def refuse(self, *args, **more):
        with self.assertRaises(InvalidClause, msg=(args, more)):
            Clause(*args, **more)

    def test_parts(self):
        for part in (("a",), ("a", ("x",), 1), ["a", ("x",)], ("a", ["x"]), ("a", "x"), (1, ("x",)), ("a", (True,)),
                     ("a", (None,)), ("a", (("x",),)), ("a", {"x": 1}), "ax", None, (("a",), ("x",)), ([], ("x",))):
            self.refuse((part,))
            self.refuse((("a", ("x",)), part))
            self.refuse(PARTS, absences=(part,))
        self.refuse([("a", ("x",))])
        self.refuse(("a", ("x",)))
        self.refuse(PARTS, absences=[("a", ("x",))])

    def test_tests(self):
        for test in (("x", "="), ("x", "=", 1, 2), ["x", "=", 1], ("x", "==", 1), ("x", "<", 1), ("x", "", 1),
                     ("x", "!", 1), ("x", None, 1), ("x", ["="], 1), ("x", "=", True), (None, "=", 1), ("x", "=", ("x",)),
                     "x=1", 1, None, ("x", ("=",), 1), ("x", "=!", 1), ("x", "= ", 1)):
            self.refuse(PARTS, tests=(test,))
        self.refuse(PARTS, tests=[("x", "=", 1)])
        self.refuse(PARTS, tests=("x", "=", 1))

    def test_tests_of_two_integers(self):
        self.assertEqual(Clause(PARTS, tests=((1, "=", 2), (1, "!=", 1))).variables, ("x", "y"))

    def test_head_and_summed_term(self):
        for head in (("x", 1), (1,), ["x"], "x", None, 1, (True,), (("x",),), {"x": 1}):
            self.refuse(PARTS, head=head)
        for summed in (True, False, ("x",), ["x"], "", {}, Clause(PARTS)):
            self.refuse(PARTS, summed=summed)

    def test_variables_that_stand_in_no_part(self):
        for name in ("z", "a", "f"):
            absences = (("c", ("f", "x")),)
            for test in ((name, "=", 1), (1, "!=", name), ("x", "=", name), (name, "=", name)):
                self.refuse(PARTS, tests=(test,), absences=absences)
            self.refuse(PARTS, head=("x", name), absences=absences)
            self.refuse(PARTS, summed=name, absences=absences)

    def test_free_variables(self):
        self.refuse(PARTS, absences=(("c", ("f", "f")),))
        self.refuse(PARTS, absences=(("c", ("x",)), ("c", ("f", "x", "f"))))
        two = Clause(PARTS, absences=(("c", ("f", "x")), ("d", ("g", "f"))))
        self.assertEqual((two.free, two.variables), (("f", "g"), ("x", "y")))
        self.assertEqual(Clause(PARTS, absences=(("c", ("x", "x")),)).free, ())

    def test_all_other_values(self):
        for value in odd_values():
            self.refuse(value)
            self.refuse((value,))
            if value != (1, 2, "a"):
                self.refuse((("a", value),))
            self.refuse((("a", (value,)),))
            self.refuse(((value, ("x",)),))
            for name in ("tests", "absences"):
                self.refuse(PARTS, **{name: value})
                self.refuse(PARTS, **{name: (value,)})
            self.refuse(PARTS, tests=((value, "=", 1),))
            self.refuse(PARTS, tests=(("x", value, 1),))
            self.refuse(PARTS, head=value)
            self.refuse(PARTS, head=(value,))
            if value is not None:
                self.refuse(PARTS, summed=value)


class ToldTest(unittest.TestCase):
    def test_properties(self):
        self.assertEqual(
            (WHOLE.parts, WHOLE.tests, WHOLE.absences, WHOLE.head, WHOLE.summed),
            (PARTS, (("x", "!=", "y"), ("y", "=", 7)), (("c", ("x", "f", 1)), ("d", ("f", "g"))), ("y", "x"), "x"))
        self.assertEqual((WHOLE.variables, WHOLE.free), (("x", "y"), ("f", "g")))
        plain = Clause(PARTS)
        self.assertEqual((plain.tests, plain.absences, plain.head, plain.summed, plain.free), ((), (), (), None, ()))
        self.assertEqual(Clause((("a", (1, 2)),)).variables, ())
        self.assertEqual(Clause(PARTS, summed=0).summed, 0)

    def test_order_and_repeats_are_kept(self):
        doubled = (PARTS[1], PARTS[0], PARTS[1])
        tests = (("y", "=", 7), ("x", "!=", "y"), ("y", "=", 7))
        absences = (("d", ("f",)), ("d", ("f",)))
        clause = Clause(doubled, tests=tests, absences=absences)
        self.assertEqual((clause.parts, clause.tests, clause.absences), (doubled, tests, absences))

    def test_equality(self):
        self.assertTrue(Clause(PARTS) == Clause(PARTS))
        self.assertFalse(Clause(PARTS) != Clause(PARTS))
        for other in (Clause(PARTS[::-1]), Clause(PARTS[:1]), Clause(PARTS, tests=(("x", "=", 1),)),
                      Clause(PARTS, absences=(("c", ("f",)),)), Clause(PARTS, head=("x",)), Clause(PARTS, summed="x"),
                      Clause(PARTS, summed=0)):
            self.assertTrue(other == other)
            self.assertFalse(Clause(PARTS) == other)
            self.assertTrue(Clause(PARTS) != other)
        for value in (*odd_values(), PARTS, str(Clause(PARTS))):
            self.assertIs(WHOLE == value, False)
            self.assertIs(WHOLE != value, True)

    def test_text(self):
        self.assertEqual(str(WHOLE), "clause of 2 parts, 2 variables")
        self.assertEqual(str(Clause((("a", (1,)),))), "clause of 1 parts, 0 variables")

    def test_no_iteration(self):
        with self.assertRaises(TypeError):
            iter(WHOLE)


class OtherClausesTest(unittest.TestCase):
    def test_with_head(self):
        other = WHOLE.with_head(("x",))
        self.assertEqual((other.head, WHOLE.head), (("x",), ("y", "x")))
        self.assertEqual(other.with_head(("y", "x")), WHOLE)
        for head in (("f",), ("z",), ["x"], ("x",) * 4, None, "x", (1,)):
            with self.assertRaises(InvalidClause):
                WHOLE.with_head(head)

    def test_with_tests(self):
        other = WHOLE.with_tests(("x", "=", 1), (2, "!=", "y"))
        self.assertEqual(other.tests, (*WHOLE.tests, ("x", "=", 1), (2, "!=", "y")))
        self.assertEqual((WHOLE.with_tests(), len(WHOLE.tests)), (WHOLE, 2))
        self.assertEqual((other.parts, other.absences, other.head, other.summed),
                         (WHOLE.parts, WHOLE.absences, WHOLE.head, WHOLE.summed))
        with self.assertRaises(InvalidClause):
            other.with_tests(("x", "=", 1))
        for test in (("f", "=", 1), ("x", "<", 1), (("x", "=", 1),), None, "x=1", ["x", "=", 1]):
            with self.assertRaises(InvalidClause):
                WHOLE.with_tests(test)

    def test_with_absence(self):
        other = IDLE.with_absence("c", ("t", "m"))
        self.assertEqual((other.absences, other.free), ((*IDLE.absences, ("c", ("t", "m"))), ("m", "n")))
        self.assertEqual((other.parts, other.head, IDLE.free), (IDLE.parts, IDLE.head, ("n",)))
        with self.assertRaises(InvalidClause):
            other.with_absence("c", ("t", "m"))
        for table, terms in (("C", ("t",)), ("c", ()), ("c", ["t"]), ("c", ("m", "m")), (1, ("t",)), ("c", "t"), ([], 1)):
            with self.assertRaises(InvalidClause):
                IDLE.with_absence(table, terms)

    def test_without_absences(self):
        other = WHOLE.without_absences()
        self.assertEqual((other.absences, other.free, len(WHOLE.absences)), ((), (), 2))
        self.assertEqual((other.parts, other.tests, other.head, other.summed),
                         (WHOLE.parts, WHOLE.tests, WHOLE.head, WHOLE.summed))
        self.assertEqual(other, other.without_absences())


class RenamedTest(unittest.TestCase):
    def test_all_places_of_variables(self):
        other = WHOLE.renamed({"x": "p", "y": "q", "f": "r", "g": "s"})
        self.assertEqual(other, Clause(
            (("a", ("p", "q")), ("b", ("q", 3))), tests=(("p", "!=", "q"), ("q", "=", 7)),
            absences=(("c", ("p", "r", 1)), ("d", ("r", "s"))), head=("q", "p"), summed="p"))
        self.assertEqual(other.renamed({"p": "x", "q": "y", "r": "f", "s": "g"}), WHOLE)
        self.assertEqual(Clause(PARTS, summed=4).renamed({"x": "p"}).summed, 4)
        self.assertIsNone(Clause(PARTS).renamed({"x": "p"}).summed)

    def test_at_once(self):
        self.assertEqual(WHOLE.renamed({"x": "y", "y": "x"}).parts, (("a", ("y", "x")), ("b", ("x", 3))))
        turned = WHOLE.renamed({"x": "y", "y": "f", "f": "g", "g": "x"})
        self.assertEqual((turned.variables, turned.free, turned.head), (("f", "y"), ("g", "x"), ("f", "y")))

    def test_tables_keep_their_names(self):
        clause = Clause((("x", ("x",)),), absences=(("f", ("f",)),)).renamed({"x": "p", "f": "q"})
        self.assertEqual((clause.parts, clause.absences), ((("x", ("p",)),), (("f", ("q",)),)))

    def test_keys_that_are_no_variables(self):
        self.assertEqual(WHOLE.renamed({}), WHOLE)
        self.assertEqual(WHOLE.renamed({"z": "x", "w": "x"}), WHOLE)
        self.assertEqual(WHOLE.renamed({"x": "x", "y": "y"}), WHOLE)

    def test_names_that_become_one(self):
        for names in ({"x": "y"}, {"x": "z", "y": "z"}, {"f": "x"}, {"x": "f"}, {"f": "g"}, {"f": "z", "x": "z"}):
            with self.assertRaises(InvalidOperation):
                WHOLE.renamed(names)

    def test_a_name_of_two_free_variables(self):
        two = Clause(PARTS, absences=(("c", ("f",)), ("d", ("f", "x"))))
        self.assertEqual(two.renamed({"f": "g"}).absences, (("c", ("g",)), ("d", ("g", "x"))))

    def test_wrong_names(self):
        for names in (*odd_values(), None, (), (("x", "y"),), "x", {"x": 1}, {1: "x"}, {"x": "Z"}, {"X": "z"},
                      {"z": 1}, {"x": "abcdefghi"}, {"x": None}, {"x": ("z",)}, {("x",): "z"}):
            with self.assertRaises(InvalidOperation):
                WHOLE.renamed(names)

    def test_the_clause_stays(self):
        names = {"x": "p"}
        other = WHOLE.renamed(names)
        names["y"] = "q"
        self.assertEqual((other.variables, WHOLE.variables, names), (("p", "y"), ("x", "y"), {"x": "p", "y": "q"}))


class ExampleTest(unittest.TestCase):
    def test_example(self):
        self.assertEqual(
            [IDLE.variables, IDLE.free, str(IDLE), IDLE.renamed({"c": "t", "t": "c", "x": "i"}).head],
            [("c", "i", "p", "t"), ("n",), "clause of 2 parts, 4 variables", ("t",)])


if __name__ == "__main__":
    unittest.main()
