"""Which gathering has a signature, and what find refuses."""

import unittest

from makeup import NO_FORMULAS, SIGNS, TOO_LONG, chars, signature
from makeups.formulas import find

BOOK = "π² A–C⁸ D⁶(−2, 4+1) 2A¹ χ⁴(1+⟨(]⟩)"
NO_SIGNATURES = ("", "0A", "1A", "100A", "1234567A", "12345678A", "00A", "02A", "002A", "2", "99", "0", "AA", "A⁸", "A ",
                 " A", "A–", "A–B", "A2", "2A2", "A\0", "J", "U", "W", "j", "u", "w", "2J", "-", "²A", "2 A", "+2A",
                 "A" * 64, "1" * 63 + "A", "A" + " " * 63, "2" * 64, "0" * 64)


class Found(unittest.TestCase):
    def answers(self, text, s, answer):
        with self.subTest(text=text, s=s):
            self.assertEqual(find(chars(text), chars(s)), [answer])

    def test_the_documents_own_formula(self):
        for i, s in enumerate(("π", "A", "B", "C", "D", "2A", "χ")):
            self.answers(BOOK, s, i)

    def test_the_answer_is_a_list_of_one_whole_number(self):
        answer = find(chars(BOOK), chars("2A"))
        self.assertIs(type(answer), list)
        self.assertIs(type(answer[0]), int)

    def test_each_sign_and_times(self):
        for sign in range(50):
            for times in (1, 2, 9, 10, 99):
                name = signature(sign, times)
                self.answers(f"4H² {name}⁸(−1) 5H²", name, 1)

    def test_one_text_is_one_signature_alone(self):
        names = [signature(sign, times) for sign in range(50) for times in (1, 2, 10)]
        for start in range(0, len(names), 48):
            own = names[start:start + 48]
            text = " ".join(name + "⁸(−1)" for name in own)
            for name in names:
                self.answers(text, name, own.index(name) if name in own else -4)

    def test_all_of_an_item_of_two_signatures(self):
        for i in range(48):
            self.answers("A–3B²", signature(i % 23, i // 23 + 1), i)
        for i, s in enumerate(("π", "Y", "Z", "2A", "2B", "χ")):
            self.answers("π² Y–2B⁸ χ²", s, i)
        for i, s in enumerate(("98z", "99a", "99b")):
            self.answers("98z–99b⁸", s, i)

    def test_a_gathering_that_has_lost_most_of_its_leaves(self):
        self.answers("A²(−1) B²(−1, −2, 2+1) C²(÷1)", "B", 1)
        self.answers("A²(−1) B²(−1, −2, 2+1) C²(÷1)", "C", 2)


class Refused(unittest.TestCase):
    def refuses(self, text, s, answer):
        with self.subTest(text=text[:20], s=s):
            self.assertEqual(find(chars(text), chars(s)), [answer])

    def test_a_signature_that_the_formula_does_not_have(self):
        for s in ("E", "Z", "a", "b", "3A", "2B", "12A", "22A", "99A", "2π", "2χ", "*", "†", "99†"):
            self.refuses(BOOK, s, -4)
        for s in ("X", "2C", "2Z", "y", "z", "2a", "A", "B", "3A"):
            self.refuses("Y–2B⁸", s, -4)

    def test_no_signature(self):
        for s in NO_SIGNATURES:
            self.refuses(BOOK, s, -4)
            self.refuses("A–3B²", s, -4)

    def test_one_character(self):
        text = chars("A⁸ 2A⁸")
        for number in list(range(0x500)) + [0x2013, 0x2020, 0x2070, 0x2212, 0x27E8, 0x110000, 2147483647]:
            self.assertEqual(find(text, [number]), [0] if number == ord("A") else [-4])
            self.assertEqual(find(text, [ord("A"), number]), [-4])
            self.assertEqual(find(text, [number, ord("A")]), [1] if number == ord("2") else [-4])

    def test_every_character_that_is_no_sign(self):
        numbers = list(range(0x400)) + list(range(0x2000, 0x2080))
        for signs in (SIGNS[:25], SIGNS[25:]):
            text = chars(" ".join(f"{c}²(−1)" for c in signs))
            self.assertEqual([k for k in numbers if find(text, [k]) != [-4]], sorted(chars(signs)))

    def test_no_formula(self):
        for text in NO_FORMULAS:
            for s in ("A", "B", "χ") + NO_SIGNATURES:
                self.refuses(text, s, -6)

    def test_too_long(self):
        for text in TOO_LONG:
            for s in ("A", "B") + NO_SIGNATURES[:6]:
                self.refuses(text, s, -2)


if __name__ == "__main__":
    unittest.main()
