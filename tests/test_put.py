"""The formula when something is put in, and what put refuses."""

import unittest

from asked import told_gatherings
from makeup import (NO_FORMULAS, TOO_LONG, book, chars, formula, gathering, mixed_gatherings, put_makeup, signs, text_of,
                    word)
from makeups.formulas import put

BOOK = "π² A–C⁸ D⁶(−2, 4+1) 2A¹ χ⁴(1+⟨(]⟩)"
ROWS = ("|", "||", "()", "(]", "[)", "|(]", "(())|", "([))", "([)]", "|" * 9, "|" * 10)
NO_ROWS = ([], [0], [6], [2147483647], [1, 0], [2, 6, 3], [1, 2147483647, 1], [2], [3], [4], [5], [3, 2], [2, 2, 3],
           [2, 3, 3], [4, 5], [2, 4, 5, 3], [4, 1, 5], [1] * 22, [2, 3] * 11, [1] * 64, [2] * 32 + [3] * 32, [2] * 64,
           [0x7C], [0x28, 0x29])


class Put(unittest.TestCase):
    def gives(self, text, i, k, row, expected):
        with self.subTest(text=text, i=i, k=k, row=row):
            self.assertEqual(put(i, k, chars(text), signs(row)), [len(expected)] + chars(expected))

    def test_the_documents_own_formula(self):
        self.gives(BOOK, 0, 1, "|", "π²(1+1) A–C⁸ D⁶(−2, 4+1) 2A¹ χ⁴(1+⟨(]⟩)")
        self.gives(BOOK, 2, 4, "()", "π² A⁸ B⁸(4+⟨()⟩) C⁸ D⁶(−2, 4+1) 2A¹ χ⁴(1+⟨(]⟩)")
        self.gives(BOOK, 4, 4, "()", "π² A–C⁸ D⁶(−2, 4+⟨|()⟩) 2A¹ χ⁴(1+⟨(]⟩)")
        self.gives(BOOK, 5, 0, "[)", "π² A–C⁸ D⁶(−2, 4+1) 2A¹(0+⟨[)⟩) χ⁴(1+⟨(]⟩)")
        self.gives(BOOK, 6, 4, "||", "π² A–C⁸ D⁶(−2, 4+1) 2A¹ χ⁴(1+⟨(]⟩, 4+2)")

    def test_what_is_put_in(self):
        for count in range(1, 10):
            self.gives("A⁸", 0, 3, "|" * count, f"A⁸(3+{count})")
        for row in ("|" * 10, "|" * 13, "()", "(]", "[)", "()()", "(())", "([)]", "[(]|)", "|(|)|"):
            self.gives("A⁸", 0, 3, row, f"A⁸(3+⟨{row}⟩)")

    def test_every_gap(self):
        for k in range(9):
            self.gives("A⁸", 0, k, "|", f"A⁸({k}+1)")
        for k in (0, 9, 10, 11, 20):
            self.gives("A²⁰", 0, k, "|", f"A²⁰({k}+1)")
        self.gives("A²", 0, 0, "(]", "A²(0+⟨(]⟩)")
        self.gives("A²", 0, 1, "(]", "A²(1+⟨(]⟩)")
        self.gives("A²", 0, 2, "(]", "A²(2+⟨(]⟩)")

    def test_size_one(self):
        self.gives("A¹", 0, 0, "|", "A¹(0+1)")
        self.gives("A¹", 0, 1, "()", "A¹(1+⟨()⟩)")
        self.gives("A¹(0+1, −1)", 0, 1, "|", "A¹(0+1, −1, 1+1)")
        self.gives("A¹(0+1, −1)", 0, 0, "|", "A¹(0+2, −1)")

    def test_beside_other_notes(self):
        self.gives("A⁴(0+1, −1, ÷2, 4+2)", 0, 1, "|", "A⁴(0+1, −1, 1+1, ÷2, 4+2)")
        self.gives("A⁴(0+1, −1, ÷2, 4+2)", 0, 2, "|", "A⁴(0+1, −1, ÷2, 2+1, 4+2)")
        self.gives("A⁴(0+1, −1, ÷2, 4+2)", 0, 3, "()", "A⁴(0+1, −1, ÷2, 3+⟨()⟩, 4+2)")

    def test_behind_what_is_there(self):
        self.gives("A⁴(2+1)", 0, 2, "|", "A⁴(2+2)")
        self.gives("A⁴(2+1)", 0, 2, "()", "A⁴(2+⟨|()⟩)")
        self.gives("A⁴(2+⟨()⟩)", 0, 2, "|", "A⁴(2+⟨()|⟩)")
        self.gives("A⁴(2+⟨(]⟩)", 0, 2, "[)", "A⁴(2+⟨(][)⟩)")
        self.gives("A⁴(2+4)", 0, 2, "|" * 5, "A⁴(2+9)")
        self.gives("A⁴(2+1)", 0, 2, "|" * 9, "A⁴(2+⟨||||||||||⟩)")
        self.gives("A⁴(2+9)", 0, 2, "|", "A⁴(2+⟨||||||||||⟩)")
        self.gives("A⁴(2+⟨||||||||||⟩)", 0, 2, "|", "A⁴(2+⟨|||||||||||⟩)")

    def test_into_an_item_of_two_signatures(self):
        self.gives("A–E²", 0, 0, "|", "A²(0+1) B–E²")
        self.gives("A–E²", 1, 1, "|", "A² B²(1+1) C–E²")
        self.gives("A–E²", 2, 2, "(]", "A–B² C²(2+⟨(]⟩) D–E²")
        self.gives("A–E²", 3, 0, "|", "A–C² D²(0+1) E²")
        self.gives("A–E²", 4, 0, "|", "A–D² E²(0+1)")
        self.gives("A–B²", 0, 0, "|", "A²(0+1) B²")
        self.gives("A–B²", 1, 0, "|", "A² B²(0+1)")
        self.gives("A–3B²", 23, 0, "|", "A–Z² 2A²(0+1) 2B–3B²")
        self.gives("A–3B²", 47, 2, "|", "A–3A² 3B²(2+1)")

    def test_twenty_one_places(self):
        self.gives("A²⁰", 0, 20, "|", "A²⁰(20+1)")
        self.gives("A¹", 0, 0, "()" * 10, f"A¹(0+⟨{'()' * 10}⟩)")
        self.gives("A²(−1)", 0, 2, "|" * 20, f"A²(−1, 2+⟨{'|' * 20}⟩)")
        self.gives("A²⁰(÷1)", 0, 20, "|", "A²⁰(÷1, 20+1)")
        self.gives("A¹⁰(10+9)", 0, 10, "()", "A¹⁰(10+⟨|||||||||()⟩)")

    def test_into_every_gap_of_every_gathering_of_sizes_one_and_two(self):
        for size in (1, 2):
            for g in mixed_gatherings(size):
                for k in range(size + 1):
                    for row in ROWS:
                        self.agrees(book(g), 1, k, row)

    def test_into_every_gap_of_some_gatherings_of_sizes_four_and_six(self):
        for g in list(mixed_gatherings(4))[::3] + list(mixed_gatherings(6))[::97]:
            for k in range(g["size"] + 1):
                for row in ("|", "[)"):
                    self.agrees(book(g), 1, k, row)

    def agrees(self, makeup, i, k, row):
        """The formula answered is the changed make-up's, the word is the one with the row in it, all others stay."""
        text, changed = chars(formula(makeup)), put_makeup(makeup, i, k, row)
        answer = put(i, k, text, signs(row))
        if len(word(changed[i])) > 21:
            self.assertEqual(answer, [-3])
            return
        self.assertEqual(text_of(answer), formula(changed))
        expected = told_gatherings(text)
        place = sum((j > 0 and j not in makeup[i]["lost"]) + len(makeup[i]["put"].get(j, "")) for j in range(k + 1))
        expected[i] = (expected[i][0], expected[i][1][:place] + row + expected[i][1][place:])
        self.assertEqual(told_gatherings(answer[1:]), expected)

    def test_every_gathering_of_a_book(self):
        makeup = [gathering("π", 2), *[gathering(c, 4) for c in "XYZ"], gathering("2A", 4),
                  gathering("B", 6, lost=[2], put={4: "|"}), gathering("99z", 1), gathering("χ", 4, put={1: "(]"})]
        for i, g in enumerate(makeup):
            for k in range(g["size"] + 1):
                for row in ROWS:
                    self.agrees(makeup, i, k, row)


class Refused(unittest.TestCase):
    def refuses(self, i, k, text, row, answer):
        with self.subTest(i=i, k=k, text=text[:20], row=row):
            self.assertEqual(put(i, k, chars(text), row), [answer])

    def test_no_gathering_is_handed_over(self):
        for row in NO_ROWS:
            for i, k in ((0, 0), (1, 8), (7, 0), (0, 3), (2147483647, 2147483647)):
                self.refuses(i, k, BOOK, row, -1)
            self.refuses(0, 0, "A²⁰(20+1)", row, -1)

    def test_no_such_gathering(self):
        for text, count in ((BOOK, 7), ("A⁸", 1), ("A–3B⁸", 48)):
            for i in (count, count + 1, 2147483647):
                for k in (0, 1, 2147483647):
                    self.refuses(i, k, text, [1], -4)
                    self.refuses(i, k, text, [1] * 21, -4)

    def test_no_such_gap(self):
        for text, size in (("A¹", 1), ("A²", 2), ("A⁸", 8), ("A²⁰", 20), ("A⁸(−8)", 8), ("A⁸(8+1)", 8), ("A²⁰(20+1)", 20)):
            for k in (size + 1, size + 2, 2147483647):
                self.refuses(0, k, text, [1], -4)
                self.refuses(0, k, text, [1] * 21, -4)

    def test_more_than_twenty_one_places(self):
        for text, row in (("A²⁰(20+1)", [1]), ("A²⁰", [1, 1]), ("A²⁰", [2, 3]), ("A¹", [1] * 21), ("A²(÷1)", [1] * 20),
                          ("A⁸(4+9)", [2, 2, 1, 3, 3]), ("A¹(0+1, −1)", [1] * 21), ("A²⁰(−1)", [1] * 3)):
            self.refuses(0, 0, text, row, -3)
            self.refuses(0, 1, text, row, -3)
            self.assertGreater(put(0, 0, chars("π² " + text), [1])[0], 0)

    def test_no_formula(self):
        for text in NO_FORMULAS:
            for row in ([1], [2, 3]) + NO_ROWS[:6]:
                self.refuses(0, 0, text, row, -6)
                self.refuses(2147483647, 2147483647, text, row, -6)

    def test_too_long(self):
        for text in TOO_LONG:
            for row in ([1], [], [6], [1] * 22):
                self.refuses(0, 0, text, row, -2)
                self.refuses(2147483647, 2147483647, text, row, -2)


if __name__ == "__main__":
    unittest.main()
