"""The formula of what is left when a leaf is lost or cut, and what lose and cut refuse."""

import unittest

from asked import told_gatherings
from makeup import (NO_FORMULAS, TOO_LONG, book, changed_makeup, changed_row, chars, formula, gathering,
                    mixed_gatherings, text_of, word)
from makeups.formulas import cut, leaf, lose

BOOK = "π² A–C⁸ D⁶(−2, 4+1) 2A¹ χ⁴(1+⟨(]⟩)"
CALLS = (lose, cut)


class Changed(unittest.TestCase):
    def gives(self, call, text, *rows):
        """Rows: number of a leaf, and the formula with it lost or cut."""
        for number, expected in rows:
            with self.subTest(call=call.__name__, text=text, leaf=number):
                self.assertEqual(call(number, chars(text)), [len(expected)] + chars(expected))

    def both_give(self, text, *rows):
        for call in CALLS:
            self.gives(call, text, *rows)


class Size(Changed):
    """Leaves that the size has."""

    def test_partner_is_whole(self):
        self.gives(lose, "A⁸", *[(k, f"A⁸(−{k + 1})") for k in range(8)])
        self.gives(cut, "A⁸", *[(k, f"A⁸(÷{k + 1})") for k in range(8)])
        self.gives(lose, "A²", (0, "A²(−1)"), (1, "A²(−2)"))
        self.gives(cut, "A²", (0, "A²(÷1)"), (1, "A²(÷2)"))
        self.gives(lose, "A²⁰", (9, "A²⁰(−10)"), (10, "A²⁰(−11)"), (19, "A²⁰(−20)"))
        self.gives(cut, "A²⁰", (9, "A²⁰(÷10)"), (10, "A²⁰(÷11)"), (19, "A²⁰(÷20)"))

    def test_partner_is_lost(self):
        self.both_give("A⁸(−1)", (6, "A⁸(−1, −8)"))
        self.both_give("A⁸(−8)", (0, "A⁸(−1, −8)"))
        self.both_give("A⁴(−2)", (1, "A⁴(−2, −3)"))
        self.both_give("A²(−1, 1+1)", (1, "A²(−1, 1+1, −2)"))

    def test_partner_is_cut(self):
        self.both_give("A⁸(÷1)", (6, "A⁸(−1, −8)"))
        self.both_give("A⁸(÷8)", (0, "A⁸(−1, −8)"))
        self.both_give("A⁴(÷2, ÷4)", (0, "A⁴(−1, ÷2, −4)"), (1, "A⁴(−2, −3, ÷4)"))
        self.both_give("A²(÷1, 1+1)", (1, "A²(−1, 1+1, −2)"))

    def test_other_leaves_are_lost_or_cut(self):
        self.gives(lose, "A⁸(−1, ÷2)", (0, "A⁸(−1, ÷2, −3)"), (1, "A⁸(−1, ÷2, −4)"), (2, "A⁸(−1, ÷2, −5)"),
                   (3, "A⁸(−1, ÷2, −6)"), (4, "A⁸(−1, −2, −7)"), (5, "A⁸(−1, ÷2, −8)"))
        self.gives(cut, "A⁸(−1, ÷2)", (0, "A⁸(−1, ÷2, ÷3)"), (1, "A⁸(−1, ÷2, ÷4)"), (2, "A⁸(−1, ÷2, ÷5)"),
                   (3, "A⁸(−1, ÷2, ÷6)"), (4, "A⁸(−1, −2, −7)"), (5, "A⁸(−1, ÷2, −8)"))

    def test_something_is_put_in(self):
        self.gives(lose, "A⁴(0+1, 2+⟨(]⟩, 4+2)", (1, "A⁴(0+1, −1, 2+⟨(]⟩, 4+2)"), (2, "A⁴(0+1, −2, 2+⟨(]⟩, 4+2)"),
                   (4, "A⁴(0+1, 2+⟨(]⟩, −3, 4+2)"), (5, "A⁴(0+1, 2+⟨(]⟩, −4, 4+2)"))
        self.gives(cut, "A⁴(0+1, 2+⟨(]⟩, 4+2)", (1, "A⁴(0+1, ÷1, 2+⟨(]⟩, 4+2)"), (2, "A⁴(0+1, ÷2, 2+⟨(]⟩, 4+2)"),
                   (4, "A⁴(0+1, 2+⟨(]⟩, ÷3, 4+2)"), (5, "A⁴(0+1, 2+⟨(]⟩, ÷4, 4+2)"))

    def test_size_one(self):
        self.both_give("A¹(0+1)", (1, "A¹(0+1, −1)"))
        self.both_give("A¹(1+⟨(]⟩)", (0, "A¹(−1, 1+⟨(]⟩)"))
        self.both_give("A¹(0+⟨()⟩, 1+2)", (2, "A¹(0+⟨()⟩, −1, 1+2)"))
        self.both_give("π² A¹ χ²", (2, "π² χ²"))


class PutIn(Changed):
    """Leaves that were put in."""

    def test_alone(self):
        self.both_give("A²(0+1)", (0, "A²"))
        self.both_give("A²(1+1, 2+3)", (1, "A²(2+3)"), (3, "A²(1+1, 2+2)"), (4, "A²(1+1, 2+2)"), (5, "A²(1+1, 2+2)"))
        self.both_give("A²(1+⟨|(]⟩)", (1, "A²(1+⟨(]⟩)"))
        self.both_give("A²(1+⟨()|⟩)", (3, "A²(1+⟨()⟩)"))

    def test_counted_rows_get_shorter(self):
        for count in range(2, 10):
            self.both_give(f"A²(1+{count})", *[(k, f"A²(1+{count - 1})") for k in range(1, count + 1)])

    def test_ten_leaves_alone_become_nine(self):
        self.both_give("A²(1+⟨||||||||||⟩)", *[(k, "A²(1+9)") for k in range(1, 11)])
        self.both_give("A²(1+⟨|||||||||||⟩)", (1, "A²(1+⟨||||||||||⟩)"), (11, "A²(1+⟨||||||||||⟩)"))

    def test_partner_is_a_leaf(self):
        self.gives(lose, "A²(1+⟨()⟩)", (1, "A²(1+1)"), (2, "A²(1+1)"))
        self.gives(cut, "A²(1+⟨()⟩)", (1, "A²(1+⟨[)⟩)"), (2, "A²(1+⟨(]⟩)"))
        self.gives(lose, "A²(1+⟨|(())⟩)", (2, "A²(1+⟨|()|⟩)"), (3, "A²(1+⟨|(|)⟩)"), (4, "A²(1+⟨|(|)⟩)"),
                   (5, "A²(1+⟨||()⟩)"))
        self.gives(cut, "A²(1+⟨|(())⟩)", (2, "A²(1+⟨|[())⟩)"), (3, "A²(1+⟨|([))⟩)"), (4, "A²(1+⟨|((])⟩)"),
                   (5, "A²(1+⟨|(()]⟩)"))

    def test_partner_is_a_stub(self):
        self.both_give("A²(1+⟨(]⟩)", (1, "A²"))
        self.both_give("A²(1+⟨[)⟩)", (1, "A²"))
        self.both_give("A²(1+⟨[|)⟩)", (1, "A²(1+⟨[)⟩)"), (2, "A²(1+1)"))
        self.both_give("A²(1+⟨(|]|⟩)", (1, "A²(1+2)"), (2, "A²(1+⟨(]|⟩)"), (3, "A²(1+⟨(|]⟩)"))
        self.both_give("A²(1+⟨(]⟩, −2)", (1, "A²(−2)"))

    def test_rows_told_sign_by_sign_become_leaves_alone(self):
        self.gives(lose, "A²(1+⟨|()|⟩)", (2, "A²(1+3)"), (3, "A²(1+3)"))
        self.gives(lose, "A²(1+⟨()||||||||⟩)", (1, "A²(1+9)"), (2, "A²(1+9)"))
        self.gives(lose, "A²(1+⟨()|||||||||⟩)", (1, "A²(1+⟨||||||||||⟩)"))
        self.both_give("A²(1+⟨|||||||||(]⟩)", (10, "A²(1+9)"))
        self.both_give("A²(1+⟨||||||||||(]⟩)", (11, "A²(1+⟨||||||||||⟩)"))

    def test_the_last_one_of_a_gathering_whose_size_is_lost(self):
        self.both_give("π² A¹(0+1, −1)", (2, "π²"))
        self.both_give("A¹(0+1, −1) π²", (0, "π²"))
        self.both_give("π² A²(−1, 1+1, −2, 2+1)", (2, "π² A²(−1, −2, 2+1)"), (3, "π² A²(−1, 1+1, −2)"))
        self.both_give("π² A²(−1, 1+⟨[)⟩, −2)", (2, "π²"))


class Items(Changed):
    """A change may part an item, and join items that stood apart."""

    def test_the_documents_own_formula(self):
        front, back = "π² A–C⁸ ", " 2A¹ χ⁴(1+⟨(]⟩)"
        self.gives(lose, BOOK, (0, "π²(−1) A–C⁸ D⁶(−2, 4+1)" + back), (2, "π² A⁸(−1) B–C⁸ D⁶(−2, 4+1)" + back),
                   (27, front + "D⁶(−2, −3, 4+1)" + back), (30, front + "D⁶(−2, 4+1, −5)" + back))
        self.gives(cut, BOOK, (1, "π²(÷2) A–C⁸ D⁶(−2, 4+1)" + back), (25, "π² A–B⁸ C⁸(÷8) D⁶(−2, 4+1)" + back),
                   (27, front + "D⁶(−2, ÷3, 4+1)" + back), (30, front + "D⁶(−2, 4+1, −5)" + back))
        self.both_give(BOOK, (29, front + "D⁶(−2)" + back), (32, front + "D⁶(−2, 4+1) χ⁴(1+⟨(]⟩)"),
                       (34, front + "D⁶(−2, 4+1) 2A¹ χ⁴"))

    def test_an_item_is_parted(self):
        self.gives(lose, "A–E²", (0, "A²(−1) B–E²"), (3, "A² B²(−2) C–E²"), (4, "A–B² C²(−1) D–E²"),
                   (6, "A–C² D²(−1) E²"), (9, "A–D² E²(−2)"))
        self.gives(cut, "A–E²", (0, "A²(÷1) B–E²"), (3, "A² B²(÷2) C–E²"), (4, "A–B² C²(÷1) D–E²"),
                   (6, "A–C² D²(÷1) E²"), (9, "A–D² E²(÷2)"))
        self.gives(lose, "A–B²", (0, "A²(−1) B²"), (3, "A² B²(−2)"))
        self.gives(lose, "Y–2B²", (2, "Y² Z²(−1) 2A–2B²"), (4, "Y–Z² 2A²(−1) 2B²"))
        self.gives(lose, "98z–99b⁴", (4, "98z⁴ 99a⁴(−1) 99b⁴"))

    def test_a_gathering_of_an_item_is_gone(self):
        self.both_give("A–E¹", (0, "B–E¹"), (1, "A¹ C–E¹"), (2, "A–B¹ D–E¹"), (3, "A–C¹ E¹"), (4, "A–D¹"))
        self.both_give("A–B¹", (0, "B¹"), (1, "A¹"))
        self.both_give("A–3B¹", (0, "B–3B¹"), (47, "A–3A¹"), (23, "A–Z¹ 2B–3B¹"))

    def test_items_are_joined_over_a_gathering_that_is_gone(self):
        self.both_give("A⁸ π¹ B⁸", (8, "A–B⁸"))
        self.both_give("A–B⁸ π¹ C–D⁸", (16, "A–D⁸"))
        self.both_give("Y–Z⁸ π²(−1) 2A⁸ 2C⁸", (16, "Y–2A⁸ 2C⁸"))
        self.both_give("A⁸ π²(÷2) B⁸", (8, "A–B⁸"))
        self.both_give("A⁸ π¹(0+⟨[)⟩, −1) B⁸", (8, "A–B⁸"))
        self.both_give("A⁸ π¹ B⁶", (8, "A⁸ B⁶"))
        self.both_give("A⁸ π¹ C⁸", (8, "A⁸ C⁸"))
        self.both_give("A⁸ π¹ B⁸(−1)", (8, "A⁸ B⁸(−1)"))
        self.both_give("A⁸(−1) π¹ B⁸", (7, "A⁸(−1) B⁸"))

    def test_items_are_joined_where_a_note_goes(self):
        self.both_give("A² B²(1+1) C²", (3, "A–C²"))
        self.both_give("A–B¹⁸ C¹⁸(18+⟨(]⟩) D–F¹⁸", (54, "A–F¹⁸"))
        self.both_give("Z² 2A²(0+⟨[)⟩)", (2, "Z–2A²"))
        self.both_give("A²(0+1) B²", (0, "A–B²"))
        self.both_give("A²(0+1) B²(0+1)", (0, "A² B²(0+1)"), (3, "A²(0+1) B²"))
        self.both_give("A² B²(1+1) C⁴", (3, "A–B² C⁴"))

    def test_forty_eight_gatherings(self):
        text = " ".join(f"{k}π²⁰(20+1)" for k in range(2, 50))
        self.both_give(text, (20, text.replace("2π²⁰(20+1)", "2π²⁰", 1)))
        self.gives(lose, text, (1006, text[:-6] + "(−20, 20+1)"))


class Every(unittest.TestCase):
    """Every leaf of many make-ups: the formula answered is the changed make-up's, its words are the changed words."""

    def agrees(self, makeup):
        text = chars(formula(makeup))
        rows = [word(g) for g in makeup]
        leaves = [(i, place) for i, row in enumerate(rows) for place, c in enumerate(row) if c in "|()"]
        for number, (i, place) in enumerate(leaves):
            self.assertEqual([leaf(number, text)[0], leaf(number, text)[2]], [i, place])
            for call in CALLS:
                answer = call(number, text)
                self.assertEqual(text_of(answer), formula(changed_makeup(makeup, number, call == cut)), formula(makeup))
                expected = told_gatherings(text)
                row = changed_row(rows[i], place, call == cut)
                expected[i:i + 1] = [(expected[i][0], row)] if row else []
                self.assertEqual(told_gatherings(answer[1:]), expected)

    def test_every_gathering_of_sizes_one_and_two(self):
        for size in (1, 2):
            for g in mixed_gatherings(size):
                self.agrees(book(g))

    def test_some_gatherings_of_sizes_four_and_six(self):
        for g in list(mixed_gatherings(4))[::3] + list(mixed_gatherings(6))[::97]:
            self.agrees(book(g))

    def test_what_was_put_in(self):
        for row in ("|", "||", "()", "(]", "[)", "|()", "(|)", "(())", "([))", "[(])", "(|]|", "[)(]", "||||||||||", "([)]"):
            for gap in range(3):
                self.agrees([gathering("A", 2), gathering("B", 2, put={gap: row}), gathering("C", 2)])
            self.agrees([gathering("A", 2), gathering("π", 1, lost=[1], put={1: row}), gathering("B", 2)])

    def test_runs(self):
        self.agrees([gathering(c, 2) for c in "XYZ"] + [gathering("2A", 2), gathering("2B", 4), gathering("2C", 4)])
        self.agrees([gathering(c, 1) for c in "ABCDE"] + [gathering("π", 1)] + [gathering(c, 1) for c in "FGH"])


class Refused(unittest.TestCase):
    def refuse(self, text, number, answer):
        for call in CALLS:
            with self.subTest(call=call.__name__, text=text[:20], leaf=number):
                self.assertEqual(call(number, chars(text)), [answer])

    def test_no_gathering_is_left(self):
        for text in ("A¹", "99†¹", "A²(−1)", "A²(−2)", "A²(÷1)", "A²(÷2)", "A¹(0+1, −1)", "A¹(−1, 1+⟨[)⟩)", "A⁴(−1, −2, −3)",
                     "A²(−1, −2, 2+1)", "A²(−1, 1+⟨(]⟩, −2)"):
            self.refuse(text, 0, -5)
            self.refuse(text, 1, -4)

    def test_a_cut_that_leaves_a_leaf(self):
        self.assertEqual(text_of(cut(0, chars("A²"))), "A²(÷1)")
        self.assertEqual(text_of(cut(1, chars("A²(−1, 1+⟨()⟩, −2)"))), "A²(−1, 1+⟨(]⟩, −2)")

    def test_no_such_leaf(self):
        for text, count in ((BOOK, 38), ("A¹", 1), ("A⁸", 8), ("A²(÷1)", 1), ("A⁸(−1)", 7), ("A–3B²", 96), ("A²(2+9)", 11)):
            for number in (count, count + 1, 2147483647):
                self.refuse(text, number, -4)

    def test_no_formula(self):
        for text in NO_FORMULAS:
            for number in (0, 1, 2147483647):
                self.refuse(text, number, -6)

    def test_too_long(self):
        for text in TOO_LONG:
            for number in (0, 2147483647):
                self.refuse(text, number, -2)


if __name__ == "__main__":
    unittest.main()
