"""Texts that are no formula: judge tells the one place where each is at fault."""

import unittest

from makeup import CAPITALS, chars
from makeups.formulas import judge
from oracle import fault, gatherings


class Faults(unittest.TestCase):
    def at_fault(self, *rows):
        """Rows of a text and the place where it is at fault."""
        for text, place in rows:
            with self.subTest(text=text):
                self.assertEqual(judge(chars(text)), [-6, place])

    def test_more_must_come(self):
        self.at_fault(("", 0))
        text = "A–2B⁸ 2D⁶(−2, ÷3, 4+1, 5+⟨(]⟩)"
        for length in range(len(text)):
            # Where its first or second item may end, nothing more must come.
            if length not in (5, 9):
                self.at_fault((text[:length], length))

    def test_more_must_come_behind_a_number_of_times(self):
        self.at_fault(("1", 1), ("0", 1), ("100", 3), ("1234567", 7), ("A⁸ 2", 4), ("A–1", 3), ("A–100", 5))

    def test_a_character_that_can_not_stand_first(self):
        for c in "JUWjuw –⁸()[]|,+−÷⟨⟩-é\0\n":
            self.at_fault((c, 0), (c + "A⁸", 0), ("A⁸ " + c, 3))

    def test_characters_that_stand_nowhere(self):
        text = "A–C⁸ D⁶(−2, 4+1, 5+⟨(]⟩)"
        for number in (0, 10, 0x2D, 0x3B, 0x4A, 0xB7, 0x2071, 0x207A, 0x10FFFF, 0x110000, 2147483647):
            for place in range(len(text)):
                told = chars(text)
                told[place] = number
                self.assertEqual(judge(told), [-6, place], (number, place))

    def test_signature_of_wrong_times(self):
        self.at_fault(("0A⁸", 0), ("1A⁸", 0), ("100A⁸", 0), ("1234567A⁸", 0), ("1A", 0), ("0A", 0), ("100πx", 0),
                      ("B⁸ 1A⁸", 3), ("A–1B⁸", 2), ("A–0B⁸", 2), ("99Z–100A⁸", 4), ("99z–100a", 4))

    def test_numbers_of_times_that_are_none(self):
        self.at_fault(("00A⁸", 1), ("02A⁸", 1), ("12345678A⁸", 7), ("A–02B⁸", 3), ("2 A⁸", 1), ("2⁸", 1), ("22J⁸", 2),
                      ("2–A⁸", 1), ("1J⁸", 1), ("0⁸", 1))

    def test_signature_that_is_there_already(self):
        self.at_fault(("A⁸ A⁸", 3), ("A⁸ A", 3), ("A–C⁸ B⁸", 5), ("A–C⁸ Cx", 5), ("2π⁸ χ⁸ 2π⁶(−1)", 7),
                      ("C⁸ A–D⁸", 5), ("C⁸ B–C⁸", 5), ("D⁸ A–D", 5), ("A⁸(−1) A⁸", 7), ("2A⁸ Z–2B⁸", 6))

    def test_more_than_forty_eight_gatherings(self):
        full = " ".join(c + "⁸(−1)" for c in CAPITALS + CAPITALS.lower() + "π*")
        self.at_fault(("A–3C⁸", 2), ("A–3B⁸ 3C⁸", 6), ("A–3B⁸ π", 6), ("π⁸ A–3B⁸", 5), ("A–99Z⁸", 2), ("a–99z", 2),
                      (full + " †⁸", len(full) + 1), (full + " 2π", len(full) + 1))

    def test_second_signature_that_is_not_behind_the_first(self):
        self.at_fault(("A–A⁸", 2), ("B–A⁸", 2), ("A–b⁸", 2), ("Z–a⁸", 2), ("Z–A⁸", 2), ("2A–Z⁸", 3), ("2A–B⁸", 3),
                      ("π–χ⁸", 2), ("π–2π⁸", 2), ("*–†", 2), ("z–π⁸", 2), ("99Z–A⁸", 4), ("A–π⁸", 2), ("a–B⁸", 2),
                      ("99Z–99Z⁸", 4))

    def test_forms_of_items_of_two_signatures(self):
        self.at_fault(("A–B–C⁸", 3), ("A––B⁸", 2), ("A-B⁸", 1), ("A–⁸", 2), ("A– B⁸", 2), ("A–B⁸(−1)", 4),
                      ("A⁸–B⁸", 2), ("A–B⁷(", 3), ("A⁸ B–C⁸(−1)", 7), ("A–J⁸", 2), ("A–B 8", 3))

    def test_size_that_there_is_not(self):
        for size in ("⁰", "³", "⁵", "⁷", "⁹", "¹¹", "¹⁵", "¹⁹", "²¹", "²²", "⁴⁰", "¹⁰⁰", "¹²³⁴⁵⁶⁷"):
            self.at_fault(("A" + size, 1), ("2A–2B" + size + "x", 5), ("A" + size + "(−1)", 1), ("A" + size + "8", 1))

    def test_sizes_that_are_no_numbers(self):
        self.at_fault(("A⁰⁸", 2), ("A⁰⁰", 2), ("A¹²³⁴⁵⁶⁷⁸", 8), ("A8", 1), ("A(−1)", 1), ("A ⁸", 1), ("A⁸8", 2),
                      ("A⁸ ⁸", 3))

    def test_item_that_should_have_been_one_with_what_is_before(self):
        self.at_fault(("A⁸ B⁸", 3), ("A–B⁸ C⁸", 5), ("A⁸ B–C⁸", 3), ("A–B⁸ C–D⁸", 5), ("Z⁸ 2A⁸", 3), ("z¹ 2a¹", 3),
                      ("A⁸ B⁸x", 3), ("A⁸ B⁸ B⁸", 3), ("9Z² 10A²", 4), ("A⁶(−1) B⁶ C⁶", 10), ("A⁸ B⁸)", 3),
                      ("A⁸ B⁸ ", 3), ("π⁸ A⁸ B⁸", 6))

    def test_what_stands_behind_an_item(self):
        self.at_fault(("A⁸x", 2), ("A⁸  C⁸", 3), ("A⁸,C⁸", 2), ("A⁸C⁸", 2), ("A⁸)", 2), ("A⁸(−1)x", 6),
                      ("A⁸(−1)(−2)", 6), ("A⁸(−1)  B⁸", 7), ("A⁸ ", 3), ("A⁸(−1) ", 7), ("A⁸(−1)⁸", 6), ("A⁸ (−1)", 3))

    def test_form_of_notes(self):
        self.at_fault(("A⁸()", 3), ("A⁸( −1)", 3), ("A⁸(−)", 4), ("A⁸(÷)", 4), ("A⁸(−1,−2)", 6), ("A⁸(−1 , −2)", 5),
                      ("A⁸(−1,  −2)", 7), ("A⁸(−1, )", 7), ("A⁸(−1,)", 6), ("A⁸(+1)", 3), ("A⁸(1)", 4), ("A⁸(1−2)", 4),
                      ("A⁸(1+)", 5), ("A⁸(1+−)", 5), ("A⁸(1+|)", 5), ("A⁸(-1)", 3), ("A⁸(−1;", 5), ("A⁸(−a)", 4),
                      ("A⁸(−¹)", 4), ("A⁸(1+1⟨", 6), ("A⁸(1+⟨(]⟩⟩", 9), ("A⁸(1+⟨(]⟩1", 9), ("A⁸(1 +1)", 4))

    def test_numbers_in_notes(self):
        self.at_fault(("A⁸(−01)", 5), ("A⁸(−00)", 5), ("A⁸(−12345678)", 11), ("A⁸(00+1)", 4), ("A⁸(01+1)", 4),
                      ("A⁸(12345678+1)", 10), ("A⁸(1+01)", 6), ("A⁸(1+12345678)", 12), ("A⁸(÷01)", 5))

    def test_leaf_or_gap_that_there_is_not(self):
        self.at_fault(("A⁸(−0)", 3), ("A⁸(−9)", 3), ("A⁸(÷0)", 3), ("A⁸(÷9)", 3), ("A⁸(9+1)", 3), ("A⁸(−9", 3),
                      ("A⁸(÷10x", 3), ("A⁸(9", 3), ("A⁸(9x", 3), ("A⁸(1234567)", 3), ("A⁸(−1, −9)", 7), ("A¹(−2)", 3),
                      ("A¹(2+1)", 3), ("A²⁰(−21)", 4), ("A²⁰(21+1)", 4), ("A⁸(−1, 10+1)", 7), ("A⁸(−9²", 3))

    def test_notes_not_in_order(self):
        self.at_fault(("A⁸(−2, −1)", 7), ("A⁸(−1, −1)", 7), ("A⁸(−1, 0+1)", 7), ("A⁸(1+1, −1)", 8),
                      ("A⁸(1+1, 1+1)", 8), ("A⁸(÷2, ÷1)", 7), ("A⁸(−1, ÷1)", 7), ("A⁸(÷1, −1)", 7),
                      ("A⁸(2+1, 1", 8), ("A⁸(2+1, 1x", 8), ("A⁸(−8, 7+1)", 7), ("A⁸(8+1, −8)", 8),
                      ("A⁸(−2, 3+1, 2+1)", 12), ("A⁸(−2, −1x", 7))

    def test_leaf_that_can_not_be_cut_or_lost_so(self):
        self.at_fault(("A⁸(÷1, ÷8)", 7), ("A⁸(÷1, −8)", 7), ("A⁸(−1, ÷8)", 7), ("A¹(÷1)", 3), ("A²(÷1, ÷2)", 7),
                      ("A²(÷1, −2)", 7), ("A⁸(÷4, 4+1, −5", 12), ("A⁸(−4, ÷5x", 7), ("A¹(÷1, 1+1)", 3))

    def test_what_is_put_in_is_no_gathering(self):
        for row in ("(", ")", "[", "]", "[]", "([]", ")(", "(()", "())", "[[))]", "([])", "(|[|]|)", "|]", "|" * 22,
                    "()" * 11, "(" * 11 + ")" * 11, "|" * 100):
            self.at_fault((f"A⁸(2+⟨{row}⟩)", 3), (f"A⁸(−1, 2+⟨{row}⟩x", 7))

    def test_what_is_put_in_is_looked_at_when_it_stands_whole(self):
        self.at_fault(("A⁸(2+⟨[]", 8), ("A⁸(2+⟨)x⟩)", 7), ("A⁸(2+⟨" + "|" * 22, 28), ("A⁸(2+⟨" + "|" * 22 + "x", 28),
                      ("A⁸(2+⟨|", 7), ("A⁸(2+⟨1⟩)", 6), ("A⁸(2+⟨⟨", 6), ("A⁸(2+⟨| |⟩", 7))

    def test_what_is_put_in_is_empty(self):
        self.at_fault(("A⁸(2+⟨⟩)", 3), ("A⁸(2+0)", 3), ("A⁸(2+0", 3), ("A⁸(−1, 2+⟨⟩", 7), ("A⁸(−1, 2+0x", 7))

    def test_leaves_alone_told_wrongly(self):
        for count in range(1, 10):
            self.at_fault((f"A⁸(2+⟨{'|' * count}⟩)", 3))
        for count in (10, 11, 21, 99, 1234567):
            self.at_fault((f"A⁸(2+{count})", 3), (f"A⁸(−1, 2+{count}", 7))

    def test_more_than_twenty_one_places(self):
        self.at_fault(("A²⁰(20+2)", 3), ("A²⁰(0+1, 20+1)", 3), ("A²⁰(−1, 20+3)", 3), ("2A²⁰(0+2) C⁸", 4),
                      ("A¹(0+⟨" + "|" * 21 + "⟩)", 2), ("A¹²(0+9, 12+1)x", 3), ("A²⁰(0+9, 1+9", 12),
                      ("A²⁰(÷1, 20+2)", 3), ("π² A²⁰(0+2)", 6))

    def test_no_leaf(self):
        self.at_fault(("A¹(−1)", 2), ("A²(−1, −2)", 2), ("A⁴(−1, −2, −3, −4)", 2), ("A²(−1, −2)x", 2),
                      ("A²(−1, −2x", 9), ("π² A¹(−1)", 5), ("2A¹(−1) B⁸", 3))

    def test_long_texts(self):
        self.at_fault(("A" * 16384, 1), (" " * 16384, 0), ("A⁸(0+⟨" + "(" * 16378, 16384), ("1" * 16384, 7),
                      ("A⁸(0+⟨" + "|" * 16376 + "⟩)", 3), ("A⁸(0+⟨" + "(" * 16377 + "x", 16383))

    def test_too_long_texts(self):
        for text in ("A" * 16385, "A⁸(0+⟨" + "|" * 16379, " " * 32768, "A⁸" + " " * 20000):
            self.assertEqual(judge(chars(text)), [-2])


class Neighbours(unittest.TestCase):
    """Every text one step beside a formula, against the tests' own way to find the fault."""

    FORMULAS = ("π² A–C⁸ D⁶(−2, 4+1) 2A¹", "χ⁴(1+⟨(]⟩)", "Y–2B¹⁰ 2C²(÷1)", "99Y–99Z⁴ a²⁰(−10, ÷12, 20+1)",
                "A¹(0+1, −1) B¹(−1, 1+2)", "*⁸(0+⟨||||||||||⟩, −1, −8)", "A⁴ C⁴ B⁴(−1) D–F⁴ H⁶")
    CHARACTERS = "012459⁰¹²⁴⁸ABCDZaπ†J–−÷+,()[]|⟨⟩ x"

    def agrees(self, text):
        place = fault(text)
        expected = [gatherings(text)] if place is None else [-6, place]
        self.assertEqual(judge(chars(text)), expected, text)

    def test_one_character_gone(self):
        for text in self.FORMULAS:
            self.agrees(text)
            for place in range(len(text)):
                self.agrees(text[:place] + text[place + 1:])

    def test_one_character_more(self):
        for text in self.FORMULAS:
            for place in range(len(text) + 1):
                for c in self.CHARACTERS:
                    self.agrees(text[:place] + c + text[place:])

    def test_one_character_another(self):
        for text in self.FORMULAS:
            for place in range(len(text)):
                for c in self.CHARACTERS:
                    self.agrees(text[:place] + c + text[place + 1:])

    def test_beginnings_and_ends(self):
        for text in self.FORMULAS:
            for place in range(len(text)):
                self.agrees(text[:place])
                self.agrees(text[place:])

    def test_one_stretch_gone(self):
        for text in self.FORMULAS:
            for start in range(len(text)):
                for end in range(start + 2, len(text)):
                    self.agrees(text[:start] + text[end:])

    def test_all_short_texts(self):
        for front, characters in (("", "AB12 –²⁸(−)"), ("A² 2", "ABZ12 –²⁸(−)"), ("A²(", "012−÷+, )⟨|⟩"),
                                  ("A²(÷1, ", "012−÷+, )⟨]⟩"), ("A¹(0+⟨", "|()[]⟩, −1")):
            texts = [front]
            for length in range(4):
                texts = [text + c for text in texts for c in characters]
                for text in texts:
                    self.agrees(text)


if __name__ == "__main__":
    unittest.main()
