"""What holds of every call: nothing handed in is changed, nothing is kept, nothing is printed."""

import contextlib
import io
import random
import unittest

from makeup import chars
from makeups.formulas import alike, bind, cut, find, item, judge, leaf, lose, put

TEXTS = ("", "A¹", "A⁸", "π² A–C⁸ D⁶(−2, 4+1) 2A¹ χ⁴(1+⟨(]⟩)", "A⁸ B⁸", "A⁸(÷1, −8)", "A²⁰(0+2)", "A–3B¹", "x" * 16384,
         "A" * 16385, "A⁸(0+⟨" + "(" * 16378)
NUMBERS = (0, 3, 34, 47, 2147483647)
SIGNATURES = ("", "A", "2A", "1A", "AA", "J", "9" * 64)
ROWS = ((), (1,), (2, 3), (2, 2, 5, 3, 1), (4, 5), (6,), (1,) * 20, (1,) * 22, (2,) * 64)
ORDERS = ((), (0,), (0, 1, 2, 3, 4, 5, 6), (6, 2, 3), (1, 1), (48,), tuple(range(64)))
OTHERS = ("", "B¹", "π² A–C⁸ E⁶(−2, 4+1) 2B¹ χ⁴(1+⟨(]⟩)", "A⁸ B⁸", "A" * 16385)


class Frozen(list):
    """A list that can't be changed, not for a while either."""

    def refuse(self, *values, **named):
        raise AssertionError("a list that was handed in is changed")

    append = clear = extend = insert = pop = remove = reverse = sort = refuse
    __setitem__ = __delitem__ = __iadd__ = __imul__ = refuse


def all_calls():
    """Calls and what they are handed, lists as tuples."""
    for text in [tuple(chars(text)) for text in TEXTS]:
        yield judge, (text,)
        for number in NUMBERS:
            for call in (item, leaf, lose, cut):
                yield call, (number, text)
        for name in SIGNATURES:
            yield find, (text, tuple(chars(name)))
        for row in ROWS:
            for i, k in ((0, 0), (4, 4), (0, 9), (9, 0)):
                yield put, (i, k, text, row)
        for order in ORDERS:
            yield bind, (text, order)
        for other in OTHERS:
            yield alike, (text, tuple(chars(other)))
            yield alike, (tuple(chars(other)), text)


def handed_over(values, kind):
    return [kind(value) if isinstance(value, tuple) else value for value in values]


def all_answers(kind):
    return [call(*handed_over(values, kind)) for call, values in all_calls()]


class Calls(unittest.TestCase):
    def test_what_is_handed_in_is_as_it_was(self):
        for call, values in all_calls():
            handed = handed_over(values, list)
            call(*handed)
            self.assertEqual(handed, handed_over(values, list))

    def test_what_is_handed_in_is_not_changed_for_a_while_either(self):
        self.assertEqual(all_answers(Frozen), all_answers(list))

    def test_nothing_is_kept(self):
        forward = all_answers(list)
        self.assertEqual(all_answers(list), forward)
        backward = [call(*handed_over(values, list)) for call, values in reversed(list(all_calls()))]
        self.assertEqual(backward, forward[::-1])

    def test_calls_in_any_order_answer_as_if_each_were_the_first(self):
        first = list(zip(all_calls(), all_answers(list)))
        for seed in range(3):
            random.Random(seed).shuffle(first)
            for (call, values), answer in first:
                self.assertEqual(call(*handed_over(values, list)), answer)

    def test_one_list_may_be_handed_in_twice(self):
        for text in TEXTS:
            for kind in (list, Frozen):
                handed = kind(chars(text))
                self.assertEqual(alike(handed, handed), alike(chars(text), chars(text)))
                self.assertEqual(handed, chars(text))
        for numbers in ([1], [2, 3], [0], [65], []):
            handed = Frozen(numbers)
            self.assertEqual(find(handed, handed), [-6])
            self.assertEqual(bind(handed, handed), [-6])
            self.assertEqual(put(0, 0, handed, handed), [-6])

    def test_an_answer_is_the_callers_own(self):
        for call, values in all_calls():
            answer = call(*handed_over(values, list))
            expected = list(answer)
            answer.clear()
            self.assertEqual(call(*handed_over(values, list)), expected)

    def test_nothing_is_printed(self):
        out, errors = io.StringIO(), io.StringIO()
        with contextlib.redirect_stdout(out), contextlib.redirect_stderr(errors):
            all_answers(list)
        self.assertEqual((out.getvalue(), errors.getvalue()), ("", ""))

    def test_all_numbers_are_ints(self):
        for answer in all_answers(list):
            self.assertIs(type(answer), list)
            self.assertTrue(all(type(number) is int for number in answer))

    def test_a_refusal_stands_alone(self):
        for (call, values), answer in zip(all_calls(), all_answers(list)):
            if answer[0] < 0:
                self.assertEqual(len(answer), 2 if call == judge and answer[0] == -6 else 1)


if __name__ == "__main__":
    unittest.main()
