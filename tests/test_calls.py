"""What holds of every call: nothing handed in is changed, nothing is kept, nothing is printed."""

import contextlib
import io
import unittest

from makeup import chars
from makeups.formulas import item, judge

TEXTS = ("", "A⁸", "π² A–C⁸ D⁶(−2, 4+1) 2A¹ χ⁴(1+⟨(]⟩)", "A⁸ B⁸", "A⁸(÷1, −8)", "A²⁰(0+2)", "A–3B¹", "x" * 16384,
         "A" * 16385, "A⁸(0+⟨" + "(" * 16378)


class Frozen(list):
    """A list that can't be changed, not for a while either."""

    def refuse(self, *values, **named):
        raise AssertionError("a list that was handed in is changed")

    append = clear = extend = insert = pop = remove = reverse = sort = refuse
    __setitem__ = __delitem__ = __iadd__ = __imul__ = refuse


def all_answers(kind):
    return [call for text in TEXTS
            for call in [judge(kind(chars(text)))] + [item(i, kind(chars(text))) for i in (0, 3, 47, 2147483647)]]


class Calls(unittest.TestCase):
    def test_what_is_handed_in_is_as_it_was(self):
        for text in TEXTS:
            handed = chars(text)
            judge(handed)
            self.assertEqual(handed, chars(text))
            for i in (0, 6, 48):
                item(i, handed)
                self.assertEqual(handed, chars(text))

    def test_what_is_handed_in_is_not_changed_for_a_while_either(self):
        self.assertEqual(all_answers(Frozen), all_answers(list))

    def test_nothing_is_kept(self):
        self.assertEqual(all_answers(list), all_answers(list))

    def test_an_answer_is_the_callers_own(self):
        text = chars("A⁸(4+⟨()⟩)")
        answer = item(0, text)
        expected = list(answer)
        answer.clear()
        self.assertEqual(item(0, text), expected)

    def test_nothing_is_printed(self):
        out, errors = io.StringIO(), io.StringIO()
        with contextlib.redirect_stdout(out), contextlib.redirect_stderr(errors):
            all_answers(list)
        self.assertEqual((out.getvalue(), errors.getvalue()), ("", ""))

    def test_all_numbers_are_ints(self):
        for answer in all_answers(list):
            self.assertIs(type(answer), list)
            self.assertTrue(all(type(number) is int for number in answer))


if __name__ == "__main__":
    unittest.main()
