"""What the whole program promises, over many make-ups that are drawn by lot, always the same ones."""

import random
import unittest

from asked import told_gatherings
from makeup import (SIGNS, SIZES, changed_makeup, changed_row, chars, formula, gathering, item_answer, leaf_answers,
                    put_makeup, sign_and_times, signature, signs, text_of, word)
from makeups.formulas import alike, bind, cut, find, item, judge, leaf, lose, put
from oracle import fault


def drawn_row(lot, most):
    """A paired row of at most so many signs, perhaps empty."""
    row = ""
    while len(row) + 2 <= most and lot.random() < 0.6:
        pair = lot.choice(("|", "|", "()", "(]", "[)"))
        place = lot.randrange(len(row) + 1)
        if pair != "|" and lot.random() < 0.5:
            row = pair[0] + row + pair[1]
        else:
            row = row[:place] + pair + row[place:]
    return row


def drawn_gathering(lot, name):
    size = lot.choice(SIZES)
    g = gathering(name, size)
    if lot.random() < 0.5:
        return g
    for k in range(1, size + 1):
        partner, chance = size + 1 - k, lot.random()
        if chance < 0.2 and partner not in g["cut"]:
            g["lost"].add(k)
        elif chance < 0.4 and size > 1 and partner not in g["cut"] | g["lost"]:
            g["cut"].add(k)
    for k in lot.sample(range(size + 1), min(3, size + 1)):
        row = drawn_row(lot, 21 - len(word(g)))
        if row:
            g["put"][k] = row
    return g if word(g) else gathering(name, size)


def drawn_names(lot, count):
    """Different signatures, many of them one behind another."""
    names = []
    while len(names) < count:
        sign, times = lot.randrange(50), lot.choice((1, 1, 1, 2, 3, 9, 10, 98, 99))
        run = [(sign, times)]
        for k in range(lot.randrange(5) if sign < 46 else 0):
            sign, times = (sign + 1, times) if sign % 23 < 22 else (sign - 22, times + 1)
            run.append((sign, times))
        names += [name for name in run if name[1] < 100 and name not in names]
    return [signature(sign, times) for sign, times in names[:count]]


def drawn_makeup(lot):
    names = drawn_names(lot, lot.choice((1, 2, 3, 5, 8, 48)))
    makeup = []
    for name in names:
        if makeup and lot.random() < 0.5:
            makeup.append(gathering(name, makeup[-1]["size"]))
        else:
            makeup.append(drawn_gathering(lot, name))
    return makeup


MAKEUPS = [drawn_makeup(random.Random(seed)) for seed in range(150)]
SMALL = [makeup for makeup in MAKEUPS if len(makeup) < 9]


def tries(makeup):
    """How many changes are tried: fewer of a large make-up, of which each takes longer."""
    return 8 if len(makeup) < 9 else 2


class OneToOne(unittest.TestCase):
    """B1"""

    def test_the_program_reads_what_the_make_up_is(self):
        for makeup in MAKEUPS:
            text = formula(makeup)
            self.assertIsNone(fault(text), text)
            self.assertEqual(judge(chars(text)), [len(makeup)], text)
            for i in range(len(makeup)):
                self.assertEqual(item(i, chars(text)), item_answer(makeup, i), text)

    def test_each_formula_is_what_the_program_itself_writes(self):
        for makeup in MAKEUPS:
            text = formula(makeup)
            self.assertEqual(text_of(bind(chars(text), list(range(len(makeup))))), text)

    def test_of_texts_beside_a_formula_each_right_one_is_what_the_program_itself_writes(self):
        lot, right = random.Random(1), 0
        for makeup in SMALL:
            text = formula(makeup)
            for k in range(60):
                place, more = lot.randrange(len(text) + 1), lot.choice(SIGNS + "0123456789¹²⁴⁶⁸⁰–−÷+, ()|[]⟨⟩" * 3)
                other = text[:place] + more + text[place + lot.randrange(2):]
                answer, at_fault = judge(chars(other)), fault(other)
                self.assertEqual(answer[1:], [] if at_fault is None else [at_fault], other)
                if at_fault is None:
                    right += 1
                    self.assertEqual(text_of(bind(chars(other), list(range(answer[0])))), other)
        self.assertGreater(right, 300)

    def test_each_signature_is_found(self):
        for makeup in MAKEUPS:
            text = chars(formula(makeup))
            for i, g in enumerate(makeup):
                self.assertEqual(find(text, chars(g["signature"])), [i])
                self.assertEqual(tuple(item(i, text)[:2]), sign_and_times(g["signature"]))
            for name in drawn_names(random.Random(2), 20):
                if name not in [g["signature"] for g in makeup]:
                    self.assertEqual(find(text, chars(name)), [-4])

    def test_the_longest_formulas_are_read_again(self):
        everything = {k: "|" for k in range(21)}
        makeup = [gathering(signature(sign, 99), 20, lost=range(1, 21), put=everything) for sign in range(48)]
        text = formula(makeup)
        self.assertLess(len(text), 16384)
        self.assertEqual(text_of(bind(chars(text), list(range(48)))), text)


class Partners(unittest.TestCase):
    """B2"""

    def test_each_leaf_is_told_once_and_its_partners_partner_is_it(self):
        for makeup in SMALL:
            text = chars(formula(makeup))
            expected = leaf_answers(makeup)
            answers = [leaf(number, text) for number in range(len(expected))]
            self.assertEqual(answers, expected)
            self.assertEqual(leaf(len(expected), text), [-4])
            self.assertEqual(len({(answer[0], answer[2]) for answer in answers}), len(answers))
            for number, answer in enumerate(answers):
                self.assertTrue(answer[3] == -1 or answers[answer[3]][3] == number)


class Changes(unittest.TestCase):
    """B3"""

    def test_lose_and_cut(self):
        lot = random.Random(3)
        for makeup in MAKEUPS:
            text, answers = chars(formula(makeup)), leaf_answers(makeup)
            for number in lot.sample(range(len(answers)), min(tries(makeup), len(answers))):
                for call in (lose, cut):
                    self.leaf_is_changed(makeup, text, number, answers[number], call)

    def leaf_is_changed(self, makeup, text, number, where, call):
        changed = changed_makeup(makeup, number, call == cut)
        answer = call(number, text)
        if not changed:
            self.assertEqual(answer, [-5])
            return
        self.assertEqual(text_of(answer), formula(changed))
        self.assertIsNone(fault(text_of(answer)))
        told = told_gatherings(text)
        row = changed_row(told[where[0]][1], where[2], call == cut)
        told[where[0]:where[0] + 1] = [(told[where[0]][0], row)] if row else []
        self.assertEqual(told_gatherings(answer[1:]), told)

    def test_leaf_by_leaf_until_nothing_is_left(self):
        lot = random.Random(4)
        for makeup in [makeup for makeup in SMALL if len(makeup) < 4]:
            text = chars(formula(makeup))
            while makeup:
                number, call = lot.randrange(len(leaf_answers(makeup))), lot.choice((lose, cut))
                makeup = changed_makeup(makeup, number, call == cut)
                answer = call(number, text)
                self.assertEqual(answer if answer == [-5] else text_of(answer), formula(makeup) if makeup else [-5])
                text = answer[1:]

    def test_put(self):
        lot, refused = random.Random(5), 0
        for makeup in MAKEUPS:
            for step in range(tries(makeup)):
                i = lot.randrange(len(makeup))
                k = lot.randrange(makeup[i]["size"] + 1)
                row = drawn_row(lot, 21) or "|"
                refused += self.is_put_in(makeup, i, k, row)
        self.assertGreater(refused, 20)

    def is_put_in(self, makeup, i, k, row):
        """Whether put refuses, rightly, since there would be too many places."""
        text, changed = chars(formula(makeup)), put_makeup(makeup, i, k, row)
        answer = put(i, k, text, signs(row))
        if len(word(changed[i])) > 21:
            self.assertEqual(answer, [-3])
            return True
        self.assertEqual(text_of(answer), formula(changed))
        told = told_gatherings(text)
        told[i] = (told[i][0], word(changed[i]))
        self.assertEqual(told_gatherings(answer[1:]), told)
        return False


class Orders(unittest.TestCase):
    """B4"""

    def test_bound_in_an_order(self):
        lot = random.Random(6)
        for makeup in MAKEUPS:
            text = chars(formula(makeup))
            order = lot.sample(range(len(makeup)), lot.randrange(len(makeup)) + 1)
            answer = bind(text, order)
            self.assertEqual(text_of(answer), formula([makeup[i] for i in order]))
            told = told_gatherings(text)
            self.assertEqual(told_gatherings(answer[1:]), [told[i] for i in order])

    def test_bound_twice_is_bound_once_by_both_orders(self):
        lot = random.Random(7)
        for makeup in MAKEUPS:
            text = chars(formula(makeup))
            first = lot.sample(range(len(makeup)), lot.randrange(len(makeup)) + 1)
            second = lot.sample(range(len(first)), lot.randrange(len(first)) + 1)
            twice = bind(bind(text, first)[1:], second)
            self.assertEqual(twice, bind(text, [first[i] for i in second]))


class Words(unittest.TestCase):
    """alike, held against the words that item tells"""

    def test_alike_is_of_the_words_alone(self):
        lot = random.Random(8)
        for makeup in SMALL:
            text = chars(formula(makeup))
            names = drawn_names(lot, len(makeup))
            other = chars(formula([dict(g, signature=name) for g, name in zip(makeup, names)]))
            told_in_full = chars(formula([gathering(name, 1, lost=[1], put={1: word(g)}) for g, name in zip(makeup, names)]))
            self.assertEqual([alike(text, other), alike(other, told_in_full), alike(told_in_full, text)], [[1]] * 3)
            for number in range(0, len(leaf_answers(makeup)), 5):
                for call in (lose, cut):
                    answer = call(number, text)
                    if answer != [-5]:
                        self.assertEqual(alike(text, answer[1:]), [0])
                        self.assertEqual(alike(answer[1:], told_in_full), [0])


if __name__ == "__main__":
    unittest.main()
