"""What leaf tells of each leaf of the book, and what it refuses."""

import unittest

from makeup import NO_FORMULAS, SIZES, TOO_LONG, chars, formula, gathering, leaf_answers, mixed_gatherings
from makeups.formulas import item, judge, leaf

BOOK = "π² A–C⁸ D⁶(−2, 4+1) 2A¹ χ⁴(1+⟨(]⟩)"


def told(text):
    """The answers of all leaves, up to the first that there isn't."""
    answers = []
    while len(answers) < 2000:
        answer = leaf(len(answers), chars(text))
        if answer == [-4]:
            return answers
        answers.append(answer)
    raise AssertionError("there are more leaves than a book can have")


class Told(unittest.TestCase):
    def answers(self, text, *rows):
        """Rows: place and partner's number of each leaf of the one gathering."""
        with self.subTest(text=text):
            self.assertEqual(told(text), [[0, k, place, partner] for k, (place, partner) in enumerate(rows)])

    def test_the_documents_own_formula(self):
        self.assertEqual(leaf(0, chars(BOOK)), [0, 0, 0, 1])
        self.assertEqual(leaf(1, chars(BOOK)), [0, 1, 1, 0])
        self.assertEqual(leaf(2, chars(BOOK)), [1, 0, 0, 9])
        self.assertEqual(leaf(13, chars(BOOK)), [2, 3, 3, 14])
        self.assertEqual([leaf(k, chars(BOOK)) for k in range(26, 33)],
                         [[4, 0, 0, 31], [4, 1, 1, 28], [4, 2, 2, 27], [4, 3, 3, 29], [4, 4, 4, 30], [4, 5, 5, 26],
                          [5, 0, 0, 32]])
        self.assertEqual([leaf(k, chars(BOOK)) for k in range(33, 39)],
                         [[6, 0, 0, 37], [6, 1, 1, -1], [6, 2, 3, 36], [6, 3, 4, 35], [6, 4, 5, 33], [-4]])

    def test_the_answer_is_a_list_of_whole_numbers(self):
        for number in (0, 34):
            answer = leaf(number, chars(BOOK))
            self.assertIs(type(answer), list)
            self.assertEqual({type(number) for number in answer}, {int})

    def test_pairs(self):
        self.answers("A²", (0, 1), (1, 0))
        self.answers("A⁴", (0, 3), (1, 2), (2, 1), (3, 0))
        for size in SIZES[1:]:
            self.answers(formula([gathering("A", size)]), *[(k, size - 1 - k) for k in range(size)])

    def test_size_one(self):
        self.answers("A¹", (0, 0))
        self.answers("A¹(0+1)", (0, 0), (1, 1))
        self.answers("A¹(1+⟨(]⟩)", (0, 0), (1, -1))
        self.answers("A¹(0+⟨()⟩, −1)", (0, 1), (1, 0))

    def test_partner_is_a_stub(self):
        self.answers("A²(÷1)", (1, -1))
        self.answers("A²(÷2)", (0, -1))
        self.answers("A⁴(÷1)", (1, 1), (2, 0), (3, -1))
        self.answers("A⁴(÷4)", (0, -1), (1, 2), (2, 1))
        self.answers("A⁴(÷1, ÷3)", (1, -1), (3, -1))
        self.answers("A²(1+⟨(]⟩)", (0, 2), (1, -1), (3, 0))
        self.answers("A²(1+⟨[)⟩)", (0, 2), (2, -1), (3, 0))

    def test_partner_is_lost(self):
        self.answers("A²(−1)", (0, 0))
        self.answers("A²(−2)", (0, 0))
        self.answers("A⁴(−1)", (0, 1), (1, 0), (2, 2))
        self.answers("A⁴(−3)", (0, 2), (1, 1), (2, 0))
        self.answers("A⁴(−1, −2)", (0, 0), (1, 1))
        self.answers("A⁴(−1, ÷3)", (0, -1), (2, 1))

    def test_what_is_put_in(self):
        self.answers("A²(0+1)", (0, 0), (1, 2), (2, 1))
        self.answers("A²(1+2)", (0, 3), (1, 1), (2, 2), (3, 0))
        self.answers("A²(1+⟨()|⟩, 2+1)", (0, 4), (1, 2), (2, 1), (3, 3), (4, 0), (5, 5))
        self.answers("A²(1+⟨(|[)()]⟩)", (0, 6), (1, -1), (2, 2), (4, -1), (5, 5), (6, 4), (8, 0))
        self.answers("A²(1+⟨(())⟩, −2)", (0, 0), (1, 4), (2, 3), (3, 2), (4, 1))
        self.answers("A²(0+⟨()⟩, −1, −2, 2+⟨()⟩)", (0, 1), (1, 0), (2, 3), (3, 2))

    def test_twenty_one_places(self):
        self.answers("A¹(0+⟨((((((((((|))))))))))⟩, −1)", *[(k, 20 - k) for k in range(21)])
        self.answers("A¹(−1, 1+⟨" + "|" * 21 + "⟩)", *[(k, k) for k in range(21)])

    def test_every_gathering_of_sizes_one_to_four(self):
        for size in (1, 2, 4):
            for g in mixed_gatherings(size):
                makeup = [gathering("π", 2, cut=[1]), g, gathering("B", 2)]
                self.assertEqual(told(formula(makeup)), leaf_answers(makeup), formula(makeup))

    def test_some_gatherings_of_size_six(self):
        for g in list(mixed_gatherings(6))[::7]:
            makeup = [gathering("π", 1, put={0: "(]"}), g]
            self.assertEqual(told(formula(makeup)), leaf_answers(makeup), formula(makeup))

    def test_an_item_of_two_signatures(self):
        self.assertEqual(told("A–3B²⁰"), [[i, k, k, 20 * i + 19 - k] for i in range(48) for k in range(20)])
        self.assertEqual(leaf(1007, chars(" ".join(f"{k}π²⁰(20+1)" for k in range(2, 50)))), [47, 20, 20, 1007])


class Once(unittest.TestCase):
    TEXTS = (BOOK, "A⁸", "A–3B⁸", "A⁸(÷1, −2, −7) B⁸(0+1, −1, 1+1, ÷2) C¹(−1, 1+⟨(]⟩)", "a²⁰(−10, ÷12, 20+1) *⁴(1+⟨(())⟩)",
             "A⁸(4+⟨[()[)|)⟩) B²(−1, −2, 2+1) C²(÷2)")

    def test_each_leaf_is_told_once_and_in_order(self):
        for text in self.TEXTS:
            gatherings = [item(i, chars(text)) for i in range(judge(chars(text))[0])]
            places = [[i, place] for i, answer in enumerate(gatherings)
                      for place, sign in enumerate(answer[7:]) if sign <= 3]
            self.assertEqual([[answer[0], answer[2]] for answer in told(text)], places)
            for number, answer in enumerate(told(text)):
                self.assertEqual(gatherings[answer[0]][5] + answer[1], number)

    def test_its_partners_partner_is_it(self):
        for text in self.TEXTS:
            answers = told(text)
            for number, answer in enumerate(answers):
                if answer[3] != -1:
                    self.assertEqual(answers[answer[3]][3], number)
                    self.assertEqual(answers[answer[3]][0], answer[0])


class Refused(unittest.TestCase):
    def test_no_such_leaf(self):
        for text, count in ((BOOK, 38), ("A¹", 1), ("A⁸", 8), ("A²(÷1)", 1), ("A⁸(−1)", 7), ("A–3B²", 96), ("A²(2+9)", 11)):
            self.assertEqual(len(leaf(count - 1, chars(text))), 4)
            for number in (count, count + 1, 2147483647):
                self.assertEqual(leaf(number, chars(text)), [-4])

    def test_no_formula(self):
        for text in NO_FORMULAS:
            for number in (0, 1, 2147483647):
                self.assertEqual(leaf(number, chars(text)), [-6])

    def test_too_long(self):
        for text in TOO_LONG:
            for number in (0, 2147483647):
                self.assertEqual(leaf(number, chars(text)), [-2])


if __name__ == "__main__":
    unittest.main()
