"""[0.14], [0.19], [1.2] and Answer, combined of stage 1."""

import unittest

from dealtrows.base.answers import Answer, combined
from dealtrows.errors import InvalidAnswer, InvalidOperation
from samples import DAY, EIGHTY, IDLE, SHOP, SIXTY, SIXTY_ONE, TOWNS, odd_values

FORMS = ("distinct", "count", "sum")
NO_FORMS = (None, True, 0, 1, "", "Count", "counts", "count ", ("count",), ["count"], {"count": 1}, "max")


def some(form, number=1):
    """An answer of a form with two heads."""
    return Answer(form, {(2,): number, (1,): number})


class MakingTest(unittest.TestCase):
    def test_numbers_and_heads(self):
        for form, number in (("distinct", 1), ("count", 3), ("count", -3), ("sum", -7), ("sum", 1)):
            answer = some(form, number)
            self.assertEqual(answer.form, form)
            self.assertEqual(answer.heads, ((1,), (2,)))
            self.assertEqual(answer.pairs(), (((1,), number), ((2,), number)))
            self.assertEqual([answer[1,], answer[2,], answer[3,], answer[()], answer[1, 2]], [number, number, 0, 0, 0])
            self.assertEqual(list(answer), [(1,), (2,)])

    def test_no_numbers(self):
        for form in FORMS:
            for answer in (Answer(form), Answer(form, None), Answer(form, {})):
                self.assertEqual((answer.form, answer.heads, answer.pairs(), len(answer)), (form, (), (), 0))
                self.assertIs(bool(answer), False)
                self.assertEqual(list(answer), [])

    def test_heads_of_each_length(self):
        for head in ((), (1,), (1, -2), (0, 0, 0), (SIXTY, -SIXTY)):
            self.assertEqual(Answer("count", {head: 5}).pairs(), ((head, 5),))

    def test_heads_ascend(self):
        answer = Answer("sum", {(5, 0): 1, (-5, 9): 2, (5, -1): 3, (0, 0): 4})
        self.assertEqual(answer.heads, ((-5, 9), (0, 0), (5, -1), (5, 0)))
        self.assertEqual(list(answer), list(answer.heads))

    def test_numbers_of_any_length(self):
        for form in ("count", "sum"):
            answer = Answer(form, {(1,): EIGHTY, (2,): -EIGHTY})
            self.assertEqual(answer[1,], EIGHTY)
            self.assertEqual((answer + answer)[1,], 2 * EIGHTY)
            self.assertEqual((-answer)[2,], EIGHTY)
            self.assertEqual(combined(form, answer, answer, answer)[2,], -3 * EIGHTY)

    def test_wrong_forms(self):
        for form in (*NO_FORMS, *odd_values()):
            with self.assertRaises(InvalidAnswer):
                Answer(form)
            with self.assertRaises(InvalidAnswer):
                Answer(form, {(1,): 1})

    def test_wrong_numbers(self):
        for form in FORMS:
            for number in (0, True, False, None, "1", (1,), [1], {}):
                with self.assertRaises(InvalidAnswer):
                    Answer(form, {(1,): number})
        for number in (2, -1, EIGHTY):
            with self.assertRaises(InvalidAnswer):
                Answer("distinct", {(1,): 1, (2,): number})

    def test_wrong_heads(self):
        for head in (1, "", "abc", None, True, (1, 2, 3, 4), (True,), (SIXTY_ONE,), ("a",), (None,), ((),), ((1,),)):
            for form in FORMS:
                with self.assertRaises(InvalidAnswer):
                    Answer(form, {head: 1})
                with self.assertRaises(InvalidAnswer):
                    Answer(form, {(5,): 1, head: 1})

    def test_heads_of_different_lengths(self):
        for numbers in ({(): 1, (1,): 1}, {(1,): 1, (1, 2): 1}, {(1, 2, 3): 1, (1, 2): 1, (2, 2): 1}):
            for form in FORMS:
                with self.assertRaises(InvalidAnswer):
                    Answer(form, numbers)

    def test_wrong_dicts(self):
        for numbers in ((), [], ((1,),), "", 0, 1, False, True, {1: 1}, {"a": 1}, Answer("count"), SHOP):
            with self.assertRaises(InvalidAnswer):
                Answer("count", numbers)

    def test_the_passed_dict_is_changed_afterwards(self):
        numbers = {(1,): 2}
        answer = Answer("count", numbers)
        numbers[(1,)] = 5
        numbers[(2,)] = 6
        self.assertEqual(answer.pairs(), (((1,), 2),))
        self.assertEqual((answer[1,], len(answer), list(answer)), (2, 1, [(1,)]))
        self.assertEqual(numbers, {(1,): 5, (2,): 6})

    def test_properties_cannot_be_assigned(self):
        answer = some("count")
        for name in ("form", "heads"):
            with self.assertRaises(AttributeError):
                setattr(answer, name, 1)


class OfHeadsTest(unittest.TestCase):
    def test_repeated_heads(self):
        answer = Answer.of_heads(((2,), (1,), (2,), (2,)))
        self.assertEqual((answer.form, answer.pairs()), ("distinct", (((1,), 1), ((2,), 1))))

    def test_no_heads_and_the_empty_head(self):
        self.assertEqual(Answer.of_heads(()), Answer("distinct"))
        self.assertEqual(Answer.of_heads(((), ())).heads, ((),))

    def test_wrong_values(self):
        wrong = ([(1,)], {(1,): 1}, (1,), ((1,), (1, 2)), ((True,),), (("a",),), ([1],), ((1, 2, 3, 4),), ((), (1,)))
        for heads in (*wrong, ((SIXTY_ONE,),), (None,), ({},), (([],),)):
            with self.assertRaises(InvalidAnswer):
                Answer.of_heads(heads)
        for heads in odd_values():
            if heads != ((),):
                with self.assertRaises(InvalidAnswer):
                    Answer.of_heads(heads)


class AskingTest(unittest.TestCase):
    def test_index_that_is_no_head(self):
        for form in FORMS:
            answer = some(form)
            for index in (1, "a", None, True, [1], {}, (True,), (1, 2, 3, 4), (SIXTY_ONE,), ("a",), ([1],), slice(1)):
                with self.assertRaises(InvalidAnswer):
                    answer[index]

    def test_contains(self):
        answer = some("sum", -4)
        self.assertIs((1,) in answer, True)
        for value in ((3,), (), (1, 2), [1], 1, (True,), (1, 2, 3, 4), *odd_values()):
            self.assertIs(value in answer, False, value)
        self.assertIs(() in Answer("count", {(): 1}), True)

    def test_length_and_truth(self):
        self.assertEqual(len(some("count")), 2)
        self.assertIs(bool(some("count")), True)
        self.assertIs(bool(Answer("sum", {(): -1})), True)
        self.assertEqual(len(Answer.of_heads(((1,),))), 1)

    def test_text(self):
        self.assertEqual(str(some("count")), "count answer of 2 heads")
        self.assertEqual(str(Answer("sum", {(): -1})), "sum answer of 1 heads")
        self.assertEqual(str(Answer("distinct")), "distinct answer of 0 heads")

    def test_equality(self):
        for form in FORMS:
            self.assertTrue(some(form) == Answer(form, {(1,): 1, (2,): 1}))
            self.assertFalse(some(form) != Answer(form, {(1,): 1, (2,): 1}))
            self.assertTrue(some(form) != Answer(form, {(1,): 1}))
            self.assertFalse(some(form) == Answer(form))
            for other in FORMS:
                self.assertIs(some(form) == some(other), form == other)
                self.assertIs(Answer(form) == Answer(other), form == other)
        self.assertFalse(some("count", 1) == some("count", 2))

    def test_equality_with_other_values(self):
        for value in (*odd_values(), ((1,), (2,)), {(1,): 1, (2,): 1}, "count"):
            if value != Answer("count"):
                self.assertIs(some("count") == value, False)
                self.assertIs(some("count") != value, True)

    def test_two_iterations_at_once(self):
        answer = some("count")
        self.assertEqual([(one, other) for one in answer for other in answer],
                         [((1,), (1,)), ((1,), (2,)), ((2,), (1,)), ((2,), (2,))])


class OperatorsTest(unittest.TestCase):
    def test_sums(self):
        for form in ("count", "sum"):
            one, other = Answer(form, {(1,): 2, (2,): 3, (4,): 1}), Answer(form, {(2,): -3, (3,): 5, (4,): 1})
            self.assertEqual(one + other, Answer(form, {(1,): 2, (3,): 5, (4,): 2}))
            self.assertEqual(one - other, Answer(form, {(1,): 2, (2,): 6, (3,): -5}))
            self.assertEqual(other - one, -(one - other))
            self.assertEqual(-one, Answer(form, {(1,): -2, (2,): -3, (4,): -1}))
            self.assertEqual((one + other).heads, ((1,), (3,), (4,)))
            self.assertEqual(one - one, Answer(form))

    def test_sets(self):
        one, other = Answer.of_heads(((1,), (2,))), Answer.of_heads(((3,), (2,)))
        self.assertEqual((one | other).heads, ((1,), (2,), (3,)))
        self.assertEqual((one & other).heads, ((2,),))
        self.assertEqual((one ^ other).heads, ((1,), (3,)))
        self.assertEqual(one ^ one, Answer("distinct"))
        for answer in (one | other, one & other, one ^ other):
            self.assertEqual(answer.form, "distinct")
            self.assertEqual({number for _, number in answer.pairs()}, {1})

    def test_answers_without_heads_fit_every_length(self):
        for head in ((), (1,), (1, 2, 3)):
            for form in ("count", "sum"):
                one, none = Answer(form, {head: 2}), Answer(form)
                self.assertEqual([one + none, none + one, one - none, none - one], [one, one, one, -one])
            one, none = Answer.of_heads((head,)), Answer("distinct")
            self.assertEqual([one | none, none | one, one ^ none, none ^ one], [one] * 4)
            self.assertEqual([one & none, none & one], [none, none])

    def applied(self, one, other):
        """Each operator of two values, as a call."""
        return {
            "+": lambda: one + other, "-": lambda: one - other,
            "|": lambda: one | other, "&": lambda: one & other, "^": lambda: one ^ other}

    def check_refused(self, one, other, signs):
        calls = self.applied(one, other)
        for sign in signs:
            with self.assertRaises(InvalidOperation, msg=(str(one), sign, str(other))):
                calls[sign]()

    def test_operators_of_other_forms(self):
        for form in ("count", "sum"):
            self.check_refused(some(form), some(form), "|&^")
            self.check_refused(Answer(form), Answer(form), "|&^")
        self.check_refused(some("distinct"), some("distinct"), "+-")
        for answer in (some("distinct"), Answer("distinct")):
            with self.assertRaises(InvalidOperation):
                -answer

    def test_answers_of_another_form(self):
        for form in FORMS:
            for other in FORMS:
                if form != other:
                    self.check_refused(some(form), some(other), "+-|&^")
                    self.check_refused(some(form), Answer(other), "+-|&^")

    def test_other_values(self):
        for form in FORMS:
            for other in (*odd_values(), 0, 1, ((1,),), {(1,): 1}, "count"):
                if not isinstance(other, Answer):
                    self.check_refused(some(form), other, "+-|&^")

    def test_heads_of_different_lengths(self):
        for head in ((), (1, 2), (1, 2, 3)):
            for form in ("count", "sum"):
                self.check_refused(some(form), Answer(form, {head: 1}), "+-")
            self.check_refused(some("distinct"), Answer.of_heads((head,)), "|&^")

    def test_nothing_is_changed(self):
        for form, signs in (("count", "+-"), ("sum", "+-"), ("distinct", "|&^")):
            one, other = Answer(form, {(1,): 1, (2,): 1}), Answer(form, {(2,): 1, (3,): 1})
            calls = self.applied(one, other)
            for sign in signs:
                calls[sign]()
            self.assertEqual(one, Answer(form, {(1,): 1, (2,): 1}))
            self.assertEqual(other, Answer(form, {(2,): 1, (3,): 1}))

    def test_assigning_operators_change_no_answer(self):
        one = kept = some("count")
        one += some("count")
        self.assertEqual((one[1,], kept), (2, some("count")))
        one -= some("count", 5)
        self.assertEqual((one[1,], kept), (-3, some("count")))
        held = same = Answer.of_heads(((1,),))
        held |= Answer.of_heads(((2,),))
        self.assertEqual((held.heads, same.heads), (((1,), (2,)), ((1,),)))
        held &= Answer.of_heads(((2,),))
        held ^= Answer.of_heads(((3,),))
        self.assertEqual((held.heads, same.heads), (((2,), (3,)), ((1,),)))


class CombinedTest(unittest.TestCase):
    def test_no_answer(self):
        for form in FORMS:
            self.assertEqual(combined(form), Answer(form))

    def test_distinct(self):
        one, other, third = (Answer.of_heads(heads) for heads in (((1,),), ((1,), (2,)), ((4,), (2,))))
        self.assertEqual(combined("distinct", one), one)
        self.assertEqual(combined("distinct", one, other), Answer.of_heads(((1,), (2,))))
        self.assertEqual(combined("distinct", one, other, third), Answer.of_heads(((1,), (2,), (4,))))
        self.assertEqual(combined("distinct", one, one, one), one)

    def test_numbers(self):
        for form in ("count", "sum"):
            one, other = Answer(form, {(1,): 2, (2,): 1}), Answer(form, {(1,): -2, (3,): 4})
            third = Answer(form, {(1,): 7, (2,): -1})
            self.assertEqual(combined(form, one), one)
            self.assertEqual(combined(form, one, other), Answer(form, {(2,): 1, (3,): 4}))
            self.assertEqual(combined(form, one, other, third), Answer(form, {(1,): 7, (3,): 4}))
            self.assertEqual(combined(form, one, -one), Answer(form))

    def test_wrong_form_comes_first(self):
        for form in (*NO_FORMS, *odd_values()):
            for answers in ((), (some("count"),), (3, some("count"))):
                with self.assertRaises(InvalidAnswer):
                    combined(form, *answers)

    def test_values_that_are_no_answer_of_the_form(self):
        for form in FORMS:
            for other in FORMS:
                if other != form:
                    for answers in ((some(other),), (Answer(other),), (some(form), some(other))):
                        with self.assertRaises(InvalidOperation):
                            combined(form, *answers)
            for value in (1, None, "count", {(1,): 1}, (some(form),), SHOP, DAY, TOWNS, IDLE):
                for answers in ((value,), (some(form), value), (value, some(form))):
                    with self.assertRaises(InvalidOperation):
                        combined(form, *answers)

    def test_any_two_have_heads_of_one_length(self):
        for form in FORMS:
            one, other = Answer(form, {(1,): 1}), Answer(form, {(1, 2): 1})
            for answers in ((one, other), (one, Answer(form), other), (one, one, other)):
                with self.assertRaises(InvalidOperation):
                    combined(form, *answers)
        for form in ("count", "sum"):
            one, other = Answer(form, {(1,): 1}), Answer(form, {(1, 2): 1})
            with self.assertRaises(InvalidOperation):
                combined(form, one, -one, other)

    def test_nothing_is_changed(self):
        one, other = some("count"), some("count", 4)
        combined("count", one, other, one)
        self.assertEqual((one, other), (some("count"), some("count", 4)))


class ExampleTest(unittest.TestCase):
    def test_example(self):
        one, other = Answer("count", {(5,): 2, (1,): 1}), Answer("count", {(1,): -1, (7,): 4})
        self.assertEqual(
            [(one + other).pairs(), one[7,], combined("count", one, one)[5,], bool(one - one), str(one)],
            [(((5,), 2), ((7,), 4)), 0, 4, False, 'count answer of 2 heads'])


if __name__ == "__main__":
    unittest.main()
