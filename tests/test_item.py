"""What item tells of each gathering, and what it refuses."""

import unittest

from makeup import NO_FORMULAS, SIZES, TOO_LONG, chars, formula, gathering, item_answer, mixed_gatherings, signature
from makeups.formulas import item

BOOK = "π² A–C⁸ D⁶(−2, 4+1) 2A¹ χ⁴(1+⟨(]⟩)"


class Told(unittest.TestCase):
    def answers(self, text, i, *answer):
        with self.subTest(text=text, i=i):
            self.assertEqual(item(i, chars(text)), list(answer))

    def test_the_documents_own_formula(self):
        self.answers(BOOK, 0, 46, 1, 2, 2, 0, 0, 2, 2, 3)
        self.answers(BOOK, 1, 0, 1, 8, 8, 0, 2, 8, 2, 2, 2, 2, 3, 3, 3, 3)
        self.answers(BOOK, 2, 1, 1, 8, 8, 0, 10, 8, 2, 2, 2, 2, 3, 3, 3, 3)
        self.answers(BOOK, 3, 2, 1, 8, 8, 0, 18, 8, 2, 2, 2, 2, 3, 3, 3, 3)
        self.answers(BOOK, 4, 3, 1, 6, 6, 0, 26, 6, 2, 2, 3, 1, 1, 3)
        self.answers(BOOK, 5, 0, 2, 1, 1, 0, 32, 1, 1)
        self.answers(BOOK, 6, 47, 1, 4, 5, 1, 33, 6, 2, 2, 5, 2, 3, 3)

    def test_the_answer_is_a_list_of_whole_numbers(self):
        answer = item(6, chars(BOOK))
        self.assertIs(type(answer), list)
        self.assertEqual({type(number) for number in answer}, {int})

    def test_each_sign_and_times(self):
        for sign in range(50):
            for times in (1, 2, 10, 99):
                self.answers(signature(sign, times) + "²", 0, sign, times, 2, 2, 0, 0, 2, 2, 3)

    def test_each_size_without_notes(self):
        self.answers("A¹", 0, 0, 1, 1, 1, 0, 0, 1, 1)
        for size in SIZES[1:]:
            half = size // 2
            self.answers(formula([gathering("A", size)]), 0, 0, 1, size, size, 0, 0, size, *[2] * half, *[3] * half)

    def test_lost_leaves(self):
        self.answers("A²(−1)", 0, 0, 1, 2, 1, 0, 0, 1, 1)
        self.answers("A²(−2)", 0, 0, 1, 2, 1, 0, 0, 1, 1)
        self.answers("A⁴(−1)", 0, 0, 1, 4, 3, 0, 0, 3, 2, 3, 1)
        self.answers("A⁴(−3)", 0, 0, 1, 4, 3, 0, 0, 3, 2, 1, 3)
        self.answers("A⁴(−1, −4)", 0, 0, 1, 4, 2, 0, 0, 2, 2, 3)
        self.answers("A⁴(−1, −2)", 0, 0, 1, 4, 2, 0, 0, 2, 1, 1)
        self.answers("A⁴(−1, −2, −3)", 0, 0, 1, 4, 1, 0, 0, 1, 1)

    def test_cut_leaves(self):
        self.answers("A²(÷1)", 0, 0, 1, 2, 1, 1, 0, 2, 4, 3)
        self.answers("A²(÷2)", 0, 0, 1, 2, 1, 1, 0, 2, 2, 5)
        self.answers("A⁴(÷1, ÷2)", 0, 0, 1, 4, 2, 2, 0, 4, 4, 4, 3, 3)
        self.answers("A⁴(÷1, ÷3)", 0, 0, 1, 4, 2, 2, 0, 4, 4, 2, 5, 3)
        self.answers("A⁴(−1, ÷3)", 0, 0, 1, 4, 2, 1, 0, 3, 2, 5, 1)

    def test_what_is_put_in(self):
        self.answers("A²(0+1)", 0, 0, 1, 2, 3, 0, 0, 3, 1, 2, 3)
        self.answers("A²(1+2)", 0, 0, 1, 2, 4, 0, 0, 4, 2, 1, 1, 3)
        self.answers("A²(2+⟨[)|⟩)", 0, 0, 1, 2, 4, 1, 0, 5, 2, 3, 4, 3, 1)
        self.answers("A²(0+1, −1, 1+⟨()⟩, 2+3)", 0, 0, 1, 2, 7, 0, 0, 7, 1, 2, 3, 1, 1, 1, 1)

    def test_size_one(self):
        self.answers("A¹(0+1)", 0, 0, 1, 1, 2, 0, 0, 2, 1, 1)
        self.answers("A¹(1+⟨(]⟩)", 0, 0, 1, 1, 2, 1, 0, 3, 1, 2, 5)
        self.answers("A¹(−1, 1+⟨[)⟩)", 0, 0, 1, 1, 1, 1, 0, 2, 4, 3)
        self.answers("A¹(0+2, −1)", 0, 0, 1, 1, 2, 0, 0, 2, 1, 1)

    def test_first_leaf_behind_stubs_lost_and_put_in_leaves(self):
        text = "A⁴(÷1) B⁴(−1) C⁴(0+3) D⁴(4+⟨(]⟩) E⁴"
        for i, first in enumerate((0, 3, 6, 13, 18)):
            self.assertEqual(item(i, chars(text))[5], first)

    def test_item_of_two_signatures(self):
        for i, (sign, times) in enumerate([(k, 1) for k in range(23)] + [(k, 2) for k in range(23)] + [(0, 3), (1, 3)]):
            self.answers("A–3B²", i, sign, times, 2, 2, 0, 2 * i, 2, 2, 3)
        self.answers("y–2b¹", 0, 44, 1, 1, 1, 0, 0, 1, 1)
        self.answers("y–2b¹", 1, 45, 1, 1, 1, 0, 1, 1, 1)
        self.answers("y–2b¹", 2, 23, 2, 1, 1, 0, 2, 1, 1)
        self.answers("y–2b¹", 3, 24, 2, 1, 1, 0, 3, 1, 1)
        self.answers("98Z–99A²", 1, 0, 99, 2, 2, 0, 2, 2, 2, 3)

    def test_twenty_one_places(self):
        self.answers("A²⁰(20+1)", 0, 0, 1, 20, 21, 0, 0, 21, *[2] * 10, *[3] * 10, 1)

    def test_every_way_to_lose_and_cut_leaves_of_sizes_one_to_six(self):
        for size in (1, 2, 4, 6):
            for g in mixed_gatherings(size):
                makeup = [gathering("π", 2), g, gathering("B", 2)]
                text = formula(makeup)
                for i in range(3):
                    self.assertEqual(item(i, chars(text)), item_answer(makeup, i), text)


class Refused(unittest.TestCase):
    def test_no_such_gathering(self):
        for text, count in ((BOOK, 7), ("A⁸", 1), ("A–3B⁸", 48)):
            self.assertGreaterEqual(item(count - 1, chars(text))[0], 0)
            for i in (count, count + 1, 2147483647):
                self.assertEqual(item(i, chars(text)), [-4])

    def test_no_formula(self):
        for text in NO_FORMULAS:
            for i in (0, 1, 2147483647):
                self.assertEqual(item(i, chars(text)), [-6])

    def test_too_long(self):
        for text in TOO_LONG:
            for i in (0, 2147483647):
                self.assertEqual(item(i, chars(text)), [-2])


if __name__ == "__main__":
    unittest.main()
