"""The formula of gatherings that are bound in an order, and what bind refuses."""

import itertools
import unittest

from asked import told_gatherings
from makeup import NO_FORMULAS, SIZES, TOO_LONG, chars, formula, gathering, signature, text_of
from makeups.formulas import bind

BOOK = "π² A–C⁸ D⁶(−2, 4+1) 2A¹ χ⁴(1+⟨(]⟩)"
NO_ORDERS = ([], [7], [0, 7], [8], [2147483647], [0, 2147483647], [0, 0], [1, 2, 1], [6, 5, 4, 3, 2, 1, 0, 6],
             list(range(8)), list(range(49)), list(range(64)), [0] * 48, [0] * 49, [0] * 64)

MIXED = [gathering("π", 2), *[gathering(c, 4) for c in "AB"], gathering("C", 4, lost=[1]), gathering("D", 4),
         gathering("Z", 6, cut=[6]), gathering("2A", 4, put={0: "(]", 4: "||"})]
RUN = [gathering(c, 2) for c in "XYZ"] + [gathering("2A", 2), gathering("2B", 2), gathering("a", 2)]


class Bound(unittest.TestCase):
    def gives(self, text, order, expected):
        with self.subTest(text=text, order=order):
            self.assertEqual(bind(chars(text), order), [len(expected)] + chars(expected))

    def test_the_own_order(self):
        for text, count in ((BOOK, 7), ("A¹", 1), ("A–3B⁸", 48), ("Y–2B¹⁰ 2C²(÷1)", 5), ("99Y–99Z⁴ a²⁰(−10, ÷12, 20+1)", 3),
                            ("A¹(0+1, −1) B¹(−1, 1+2)", 2), ("*⁸(0+⟨||||||||||⟩, −1, −8)", 1), ("A⁴ C⁴ B⁴(−1) D–F⁴ H⁶", 7),
                            ("A²⁰ B¹ C¹⁸ D¹⁶ E–F¹⁴ G¹²", 7), ("99†⁴(0+⟨[(])⟩)", 1)):
            self.gives(text, list(range(count)), text)

    def test_each_sign_times_and_size_is_written_as_it_was_read(self):
        for sign in range(50):
            for times in (1, 2, 9, 10, 20, 99):
                for size in SIZES:
                    text = formula([gathering(signature(sign, times), size)])
                    self.gives(text, [0], text)

    def test_one_alone(self):
        for i, expected in enumerate(("π²", "A⁸", "B⁸", "C⁸", "D⁶(−2, 4+1)", "2A¹", "χ⁴(1+⟨(]⟩)")):
            self.gives(BOOK, [i], expected)

    def test_a_part(self):
        self.gives(BOOK, [1, 2], "A–B⁸")
        self.gives(BOOK, [1, 3], "A⁸ C⁸")
        self.gives(BOOK, [6, 0], "χ⁴(1+⟨(]⟩) π²")
        self.gives("A–3B⁸", [47, 46, 0], "3B⁸ 3A⁸ A⁸")

    def test_items_are_parted(self):
        self.gives("A–C⁸", [2, 1, 0], "C⁸ B⁸ A⁸")
        self.gives("A–D⁸", [0, 1, 3, 2], "A–B⁸ D⁸ C⁸")
        self.gives("A–D⁸ π²", [0, 1, 4, 2, 3], "A–B⁸ π² C–D⁸")
        self.gives("A–D⁸", [2, 3, 0, 1], "C–D⁸ A–B⁸")
        self.gives("Y–2B⁸", [1, 0, 2, 3], "Z⁸ Y⁸ 2A–2B⁸")

    def test_items_are_joined(self):
        self.gives("B⁸ A⁸", [1, 0], "A–B⁸")
        self.gives("A–B⁸ π² C–D⁸", [0, 1, 3, 4], "A–D⁸")
        self.gives("A–B⁸ π² C–D⁸", [2, 0, 1, 3, 4], "π² A–D⁸")
        self.gives("2A⁸ Z⁸", [1, 0], "Z–2A⁸")
        self.gives("99a² 98z²", [1, 0], "98z–99a²")
        self.gives("C¹ B¹ A¹", [2, 1, 0], "A–C¹")

    def test_neighbours_that_are_not_joined(self):
        self.gives("B⁸ A⁶", [1, 0], "A⁶ B⁸")
        self.gives("A⁸ Z⁸", [1, 0], "Z⁸ A⁸")
        self.gives("a⁸ Z⁸", [1, 0], "Z⁸ a⁸")
        self.gives("A⁸ 99Z⁸", [1, 0], "99Z⁸ A⁸")
        self.gives("χ⁸ π⁸", [1, 0], "π⁸ χ⁸")
        self.gives("π⁸ z⁸", [1, 0], "z⁸ π⁸")
        self.gives("2π⁸ π⁸", [1, 0], "π⁸ 2π⁸")
        self.gives("B⁸(−1) A⁸", [1, 0], "A⁸ B⁸(−1)")
        self.gives("B⁸ A⁸(0+1)", [1, 0], "A⁸(0+1) B⁸")
        self.gives("2B⁸ A⁸", [1, 0], "A⁸ 2B⁸")

    def test_there_and_back(self):
        for text in (BOOK, "A–G²", "A⁴ C⁴ B⁴(−1) D–F⁴ H⁶"):
            for order in itertools.islice(itertools.permutations(range(7)), 0, None, 41):
                there = bind(chars(text), list(order))[1:]
                back = bind(there, [order.index(i) for i in range(7)])
                self.assertEqual(text_of(back), text)

    def test_every_order_of_every_part(self):
        for makeup in (MIXED, RUN):
            for length in range(1, len(makeup) + 1):
                for order in itertools.islice(itertools.permutations(range(len(makeup)), length), 0, None, 2 * length + 1):
                    self.agrees(makeup, list(order))

    def agrees(self, makeup, order):
        text = chars(formula(makeup))
        answer = bind(text, order)
        self.assertEqual(text_of(answer), formula([makeup[i] for i in order]))
        told = told_gatherings(text)
        self.assertEqual(told_gatherings(answer[1:]), [told[i] for i in order])

    def test_bound_twice_is_bound_once_by_both_orders(self):
        for makeup in (MIXED, RUN):
            text = chars(formula(makeup))
            for first in itertools.islice(itertools.permutations(range(len(makeup)), 5), 0, None, 97):
                for second in itertools.islice(itertools.permutations(range(5), 3), 0, None, 7):
                    twice = bind(bind(text, list(first))[1:], list(second))
                    self.assertEqual(twice, bind(text, [first[i] for i in second]))

    def test_forty_eight_gatherings(self):
        backwards = list(range(47, -1, -1))
        names = [signature(i % 23, i // 23 + 1) for i in range(48)]
        self.gives("A–3B⁸", backwards, " ".join(name + "⁸" for name in reversed(names)))
        self.gives(" ".join(name + "⁸" for name in reversed(names)), backwards, "A–3B⁸")


class Refused(unittest.TestCase):
    def refuses(self, text, order, answer):
        with self.subTest(text=text[:20], order=order):
            self.assertEqual(bind(chars(text), order), [answer])

    def test_no_order(self):
        for order in NO_ORDERS:
            self.refuses(BOOK, order, -1)

    def test_no_order_of_forty_eight_gatherings(self):
        for order in ([48], [2147483647], list(range(48)) + [0], list(range(49)), list(range(64)), list(range(47)) + [46],
                      list(range(1, 49)), [47, 47], list(range(48)) + list(range(16)), []):
            self.refuses("A–3B⁸", order, -1)

    def test_no_order_of_one_gathering(self):
        for order in ([], [1], [0, 0], [0, 1], [2147483647]):
            self.refuses("A⁸", order, -1)

    def test_no_formula(self):
        for text in NO_FORMULAS:
            for order in ([0],) + NO_ORDERS:
                self.refuses(text, order, -6)

    def test_too_long(self):
        for text in TOO_LONG:
            for order in ([0],) + NO_ORDERS:
                self.refuses(text, order, -2)


if __name__ == "__main__":
    unittest.main()
