"""Formulas that are right: judge tells how many gatherings they have."""

import unittest

from makeup import CAPITALS, ROW_SIGNS, SIZES, chars, formula, gathering, signature, word
from makeups.formulas import judge
from oracle import is_paired


class Right(unittest.TestCase):
    def answers(self, text, count):
        with self.subTest(text=text):
            self.assertEqual(judge(chars(text)), [count])

    def test_the_documents_own_formula(self):
        self.answers("π² A–C⁸ D⁶(−2, 4+1) 2A¹ χ⁴(1+⟨(]⟩)", 7)

    def test_the_answer_is_a_list_of_one_whole_number(self):
        answer = judge(chars("A⁸"))
        self.assertIs(type(answer), list)
        self.assertIs(type(answer[0]), int)

    def test_each_sign_once_and_many_times(self):
        for sign in range(50):
            for times in (1, 2, 9, 10, 98, 99):
                self.answers(signature(sign, times) + "⁸", 1)

    def test_each_size(self):
        for size in SIZES:
            self.answers(formula([gathering("A", size)]), 1)
        self.answers("A¹", 1)
        self.answers("A²⁰", 1)

    def test_items_of_two_signatures(self):
        for text, count in (
                ("A–B⁸", 2), ("A–Z⁸", 23), ("a–z²", 23), ("I–K⁴", 2), ("T–V⁴", 2), ("V–X⁴", 2), ("Z–2A⁶", 2),
                ("z–2a⁶", 2), ("A–2Z¹", 46), ("9Z–10A¹⁰", 2), ("98Z–99A²⁰", 2), ("99Y–99Z¹", 2), ("98C–99B⁸", 23),
                ("99y–99z¹", 2)):
            self.answers(text, count)

    def test_forty_eight_gatherings(self):
        self.answers("A–3B⁸", 48)
        self.answers("98A–99Z² a–b²", 48)
        self.answers("A–3A⁸ 3B⁶", 48)
        self.answers(" ".join(c + "⁸(−1)" for c in CAPITALS + CAPITALS.lower() + "π*"), 48)

    def test_neighbours_that_are_not_one_item(self):
        for text, count in (
                ("A⁸ B⁶", 2), ("A⁸ C⁸", 2), ("B⁸ A⁸", 2), ("A⁸ b⁸", 2), ("Z⁸ a⁸", 2), ("Z⁸ A⁸", 2), ("A⁸ 2B⁸", 2),
                ("A⁸ 2A⁸", 2), ("99Z⁸ A⁸", 2), ("π⁸ χ⁸ *⁸ †⁸", 4), ("π² 2π²", 2), ("z⁸ π⁸", 2), ("A⁸(−1) B⁸", 2),
                ("A⁸ B⁸(−1)", 2), ("A⁸(−1) B⁸(−1)", 2), ("A–B⁸ C⁸(−1) D–E⁸", 5), ("A–B⁸ C–D⁶", 4),
                ("A–B⁸ D–E⁸", 4), ("A–B⁸ C⁸(0+1)", 3), ("C–D⁸ A–B⁸", 4), ("A⁸ D⁸ B⁸ E⁸", 4)):
            self.answers(text, count)

    def test_each_kind_of_note(self):
        for text in (
                "A⁸(−1)", "A⁸(−8)", "A⁸(÷1)", "A⁸(÷8)", "A⁸(0+1)", "A⁸(8+9)", "A⁸(0+⟨||||||||||⟩)", "A⁸(4+⟨()⟩)",
                "A⁸(4+⟨(]⟩)", "A⁸(4+⟨[)⟩)", "A⁸(4+⟨|()⟩)", "A⁸(4+⟨([)]⟩)", "A⁸(4+⟨[()[)|)⟩)", "A⁸(0+1, −1, 1+1, ÷2)",
                "A⁸(−1, −8)", "A⁸(−4, −5)", "A⁸(÷1, −2, −7)", "A²⁰(−10, ÷12, 20+1)", "A¹(0+1)", "A¹(1+1)",
                "A¹(0+1, −1)", "A¹(−1, 1+1)", "A¹(−1, 1+⟨(]⟩)", "A²(÷1)", "A²(÷2)", "A²(−1)", "A²(−1, −2, 2+1)"):
            self.answers(text, 1)

    def test_twenty_one_places(self):
        for text in (
                "A²⁰(20+1)", "A²⁰(0+1)", "A²⁰(−1, 20+2)", "A¹(0+⟨||||||||||⟩, 1+⟨||||||||||⟩)", "A²⁰(÷1, 7+1)",
                "A¹(−1, 1+⟨|||||||||||||||||||||⟩)", "A¹(0+⟨((((((((((|))))))))))⟩, −1)",
                "A¹²(0+9)", "A²(−1, −2, 2+⟨|(((((((((()))))))))]⟩)"):
            self.answers(text, 1)

    def test_leaves_alone_are_counted_up_to_nine(self):
        for count in range(1, 10):
            self.answers(f"A⁸(3+{count})", 1)
        for count in range(10, 14):
            self.answers(f"A⁸(3+⟨{'|' * count}⟩)", 1)

    def test_every_row_of_up_to_five_signs_is_put_in_if_it_is_paired(self):
        rows = [""]
        for k in range(5):
            rows = [row + sign for row in rows for sign in ROW_SIGNS]
            for row in rows:
                right = is_paired(row) and set(row) != {"|"}
                self.assertEqual(judge(chars(f"A²(1+⟨{row}⟩)")), [1] if right else [-6, 3], row)

    def test_every_way_to_lose_and_cut_leaves_of_sizes_one_to_six(self):
        for size in (1, 2, 4, 6):
            for number in range(3 ** size):
                states = [number // 3 ** k % 3 for k in range(size)]
                text = formula([gathering("A", size, [k + 1 for k in range(size) if states[k] == 1],
                                          [k + 1 for k in range(size) if states[k] == 2])])
                self.assertEqual(judge(chars(text))[0] == 1, self.may_be(states), text)

    def may_be(self, states):
        pairs = list(zip(states, reversed(states)))
        cut_right = all(a != 2 or b == 0 for a, b in pairs) and not (len(states) == 1 and 2 in states)
        return cut_right and 0 in states

    def test_make_ups_of_many_gatherings(self):
        for start in range(0, 50, 3):
            makeup = [gathering(signature((start + 7 * k) % 50, 1 + k % 3), SIZES[(start + k) % 11],
                                put={k % 2: "|" * (k % 4)}) for k in range(30)]
            makeup = [g for g in makeup if len(word(g)) <= 21]
            self.answers(formula(makeup), len(makeup))


if __name__ == "__main__":
    unittest.main()
