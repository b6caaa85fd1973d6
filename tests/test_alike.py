"""Whether two formulas tell the same words, and what alike refuses."""

import itertools
import unittest

from makeup import NO_FORMULAS, TOO_LONG, chars, formula, gathering, mixed_gatherings, word
from makeups.formulas import alike

BOOK = "π² A–C⁸ D⁶(−2, 4+1) 2A¹ χ⁴(1+⟨(]⟩)"
FORMULAS = (BOOK, "A¹", "A⁸", "A–3B⁸", "A⁴ C⁴ B⁴(−1) D–F⁴ H⁶", "99†⁴(0+⟨[(])⟩)", "A¹(0+1, −1) B¹(−1, 1+2)")


class Alike(unittest.TestCase):
    def answers(self, answer, *pairs):
        for one, other in pairs:
            with self.subTest(one=one, other=other):
                self.assertEqual(alike(chars(one), chars(other)), [answer])
                self.assertEqual(alike(chars(other), chars(one)), [answer])

    def test_the_answer_is_a_list_of_one_whole_number(self):
        for other in ("A⁸", BOOK):
            answer = alike(chars(BOOK), chars(other))
            self.assertIs(type(answer), list)
            self.assertIs(type(answer[0]), int)

    def test_with_itself(self):
        for text in FORMULAS:
            self.answers(1, (text, text))
            handed = chars(text)
            self.assertEqual(alike(handed, handed), [1])
            self.assertEqual(handed, chars(text))

    def test_other_signatures(self):
        self.answers(1, ("A⁸", "B⁸"), ("A⁸", "99†⁸"), ("A–C⁸", "D⁸ B⁸ π⁸"), ("A–C⁸", "X–Z⁸"), ("Y–2A¹", "a¹ *¹ 7χ¹"),
                     (BOOK, "χ² X–Z⁸ 2D⁶(−2, 4+1) †¹ π⁴(1+⟨(]⟩)"), ("A–3B²", "98A–99Z² a–b²"))

    def test_leaves_alone_told_in_other_ways(self):
        self.answers(1, ("A¹", "A²(−1)"), ("A¹", "A²(−2)"), ("A²(−1)", "A²(−2)"), ("A¹", "A¹(0+1, −1)"),
                     ("A¹", "A¹(−1, 1+1)"), ("A¹", "A²(−1, −2, 2+1)"), ("A¹(0+1)", "A¹(1+1)"), ("A¹(0+1)", "A⁴(−1, −2)"),
                     ("A¹(0+9)", "A²⁰(−1, −2, −3, −4, −5, −6, −7, −8, −9, −10)"),
                     ("A¹(0+9)", "A¹(0+⟨||||||||||⟩, −1)"))

    def test_pairs_told_in_other_ways(self):
        self.answers(1, ("A²", "A¹(−1, 1+⟨()⟩)"), ("A²", "A⁴(−1, −4)"), ("A²", "A⁴(−2, −3)"), ("A⁴", "A²(1+⟨()⟩)"),
                     ("A⁴", "A¹(0+⟨(())⟩, −1)"), ("A²(÷1)", "A¹(−1, 1+⟨[)⟩)"), ("A²(÷2)", "A⁴(−1, ÷3, −4)"),
                     ("A²(1+1)", "A⁴(−2)"), ("A²(1+1)", "A⁴(−3)"), ("A⁴(−1)", "A²(2+1)"), ("A²(0+⟨()⟩)", "A²(2+⟨()⟩)"),
                     ("A²(0+1, 2+1)", "A¹(0+⟨|()⟩)"), ("χ⁴(1+⟨(]⟩)", "χ⁶(1+⟨(]⟩, −3, −4)"))

    def test_words_that_differ(self):
        self.answers(0, ("A²", "A¹"), ("A²", "A¹(0+1)"), ("A²", "A²(÷1)"), ("A²(÷1)", "A²(÷2)"), ("A²(÷1)", "A¹"),
                     ("A⁴", "A²(0+⟨()⟩)"), ("A⁸(−1)", "A⁸(−2)"), ("A⁸(−1)", "A⁸(−8)"), ("A⁸(4+1)", "A⁸(3+1)"),
                     ("A⁸(4+⟨(]⟩)", "A⁸(4+⟨[)⟩)"), ("A⁸(4+⟨(]⟩)", "A⁸(4+⟨()⟩)"), ("A⁸", "A¹⁰"), ("A²⁰", "A²⁰(20+1)"),
                     (BOOK, BOOK.replace("(]", "[)")), (BOOK, BOOK.replace("−2", "÷2")), (BOOK, BOOK.replace("2A¹", "2A²")))

    def test_more_or_fewer_gatherings(self):
        self.answers(0, ("A⁸", "A–B⁸"), ("A–C⁸", "A–D⁸"), (BOOK, BOOK + " *²"), (BOOK, "*² " + BOOK), ("A–3B⁸", "A–3A⁸"),
                     ("A¹(0+1)", "A–B¹"), ("A²(2+⟨()⟩)", "A–B²"), ("A⁴", "A–B²"))

    def test_the_same_words_in_another_order(self):
        self.answers(0, ("A⁸ B⁶", "A⁶ B⁸"), ("A² B²(÷1)", "B²(÷1) A²"), ("A–B⁸ C⁶", "C⁶ A–B⁸"))
        self.answers(1, ("A⁸ B⁶", "B⁸ A⁶"), ("A–C⁸", "C⁸ B⁸ A⁸"))

    def test_every_two_gatherings_of_sizes_one_and_two_and_some_of_size_four(self):
        some = [g for size in (1, 2) for g in mixed_gatherings(size)] + list(mixed_gatherings(4))[::3]
        for one, other in itertools.product(some, some[::2]):
            expected = [1] if word(one) == word(other) else [0]
            text, against = formula([gathering("π", 2), one]), formula([gathering("χ", 2), other])
            self.assertEqual(alike(chars(text), chars(against)), expected, (text, against))


class Refused(unittest.TestCase):
    def refuses(self, one, other, answer):
        with self.subTest(one=one[:20], other=other[:20]):
            self.assertEqual(alike(chars(one), chars(other)), [answer])
            self.assertEqual(alike(chars(other), chars(one)), [answer])

    def test_no_formula(self):
        for text in NO_FORMULAS:
            self.refuses(text, BOOK, -6)
            self.refuses(text, text, -6)
            for other in NO_FORMULAS[:5]:
                self.refuses(text, other, -6)

    def test_too_long(self):
        for text in TOO_LONG:
            self.refuses(text, BOOK, -2)
            self.refuses(text, text, -2)
            for other in NO_FORMULAS + TOO_LONG:
                self.refuses(text, other, -2)


if __name__ == "__main__":
    unittest.main()
