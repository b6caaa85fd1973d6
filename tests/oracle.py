"""Where a text is at fault, found in another way than the program's.

The form of a formula is a regular expression. From it another one is made that tells which texts can be
continued to the right form; the longest such beginning gives the place of a fault of form. What the right
form still may break is then looked for in that beginning alone.
"""

import re

from makeup import SIGNS, comes_behind, row_after

RAISED = "⁰¹²³⁴⁵⁶⁷⁸⁹"
SIZES = ("¹", "²", "⁴", "⁶", "⁸", "¹⁰", "¹²", "¹⁴", "¹⁶", "¹⁸", "²⁰")


# A form is a pair: the expression of the whole, and of its beginnings.
def one(characters):
    whole = "[" + re.escape(characters) + "]"
    return whole, whole + "?"


def seq(*parts):
    whole = "".join(part[0] for part in parts)
    beginnings = ["".join(p[0] for p in parts[:k]) + parts[k][1] for k in range(len(parts))]
    return whole, "(?:" + "|".join(reversed(beginnings)) + ")"


def alt(*parts):
    return "(?:" + "|".join(p[0] for p in parts) + ")", "(?:" + "|".join(p[1] for p in parts) + ")"


def opt(part):
    return "(?:" + part[0] + ")?", part[1]


def star(part):
    return "(?:" + part[0] + ")*", "(?:" + part[0] + ")*" + part[1]


def number(digits):
    whole = f"(?:{digits[0]}|[{digits[1:]}][{digits}]{{0,6}})"
    return whole, whole + "?"


def formula_form():
    plain = number("0123456789")
    signature = seq(opt(plain), one(SIGNS))
    size = number(RAISED)
    told = seq(one("⟨"), star(one("|()[]")), one("⟩"))
    note = alt(seq(one("−÷"), plain), seq(plain, one("+"), alt(plain, told)))
    notes = seq(one("("), note, star(seq(one(","), one(" "), note)), one(")"))
    item = alt(seq(signature, size, opt(notes)), seq(signature, one("–"), signature, size))
    return seq(item, star(seq(one(" "), item)))


WHOLE, BEGINNING = (re.compile(form) for form in formula_form())
SIGNATURE = re.compile("([0-9]*)([" + re.escape(SIGNS) + "])")
NUMBER = re.compile("[0-9]+")
SIZE = re.compile("[" + RAISED + "]+")
TOLD = re.compile("⟨([^⟩]*)⟩")


def form_place(s):
    """How long the longest beginning is that can be continued to the right form."""
    low, high = 0, len(s)
    while low < high:
        middle = (low + high + 1) // 2
        if BEGINNING.fullmatch(s[:middle]):
            low = middle
        else:
            high = middle - 1
    return low


def is_paired(row):
    """Takes away leaves alone and inmost pairs until nothing is left."""
    before = None
    while before != row:
        before = row
        for pair in ("|", "()", "(]", "[)"):
            row = row.replace(pair, "")
    return row == ""


class Stop(Exception):
    """The place of the fault, or None where the beginning ends without one."""


def stop_if(wrong, place):
    if wrong:
        raise Stop(place)


class Search:
    """Walks the beginning of right form and stops at the first thing that is at fault otherwise."""

    def __init__(self, s):
        self.s, self.end, self.at = s, form_place(s), 0
        self.names, self.last = [], None

    def take(self, pattern):
        found = pattern.match(self.s, self.at, self.end)
        stop_if(found is None, None)
        self.at = found.end()
        return found

    def take_number(self, pattern, digits):
        found = self.take(pattern)
        stop_if(self.at < len(self.s) and self.s[self.at] in digits, None)
        return found.group()

    def sees(self, c):
        return self.at < self.end and self.s[self.at] == c

    def skip(self, c):
        stop_if(not self.sees(c), None)
        self.at += 1

    def signature(self):
        start = self.at
        found = self.take(SIGNATURE)
        stop_if(found.group(1) and not 2 <= int(found.group(1)) <= 99, start)
        return start, found.group()

    def item(self):
        begin, first = self.signature()
        stop_if(first in self.names or len(self.names) == 48, begin)
        own = [first]
        if self.sees("–"):
            self.at += 1
            start, last = self.signature()
            a, b = row_after(first), row_after(last)
            stop_if(a is None or b is None or a[0] != b[0] or a[1] >= b[1], start)
            stop_if(len(self.names) + b[1] - a[1] + 1 > 48, start)
            for rank in range(a[1] + 1, b[1] + 1):
                name = (str(rank // 23 + 1) if rank > 22 else "") + SIGNS[23 * a[0] + rank % 23]
                stop_if(name in self.names, start)
                own.append(name)
        start = self.at
        size = self.take_number(SIZE, RAISED)
        stop_if(size not in SIZES, start)
        noted = self.at < len(self.s) and self.s[self.at] == "("
        if noted:
            self.notes(int(size.translate(str.maketrans(RAISED, "0123456789"))))
        elif self.last:
            stop_if(self.last[1] == size and comes_behind(self.last[0], first), begin)
        self.names += own
        self.last = None if noted else (own[-1], size)

    def notes(self, n):
        opening, order, lost, cut, put = self.at, [], [], [], {}
        self.skip("(")
        while True:
            start = self.at
            if self.sees("−") or self.sees("÷"):
                kind = self.s[self.at]
                self.at += 1
                k = int(self.take_number(NUMBER, "0123456789"))
                order.append(k - 0.5)
                stop_if(k not in range(1, n + 1) or order != sorted(set(order)), start)
                stop_if(n + 1 - k in cut or kind == "÷" and (n == 1 or n + 1 - k in lost), start)
                (lost if kind == "−" else cut).append(k)
            else:
                k = int(self.take_number(NUMBER, "0123456789"))
                order.append(k)
                stop_if(k > n or order != sorted(set(order)), start)
                self.skip("+")
                put[k] = self.put_in(start)
            if not self.sees(","):
                break
            self.skip(",")
            self.skip(" ")
        self.skip(")")
        places = n - len(lost) + sum(len(row) for row in put.values())
        stop_if(places > 21 or places == 0, opening)

    def put_in(self, start):
        if self.sees("⟨"):
            row = self.take(TOLD).group(1)
            stop_if(row == "" or len(row) > 21 or not is_paired(row), start)
            stop_if(re.fullmatch("[|]{1,9}", row), start)
            return row
        count = int(self.take_number(NUMBER, "0123456789"))
        stop_if(not 1 <= count <= 9, start)
        return "|" * count


def fault(s):
    """The place where the text is at fault, or None of a formula."""
    search = Search(s)
    try:
        search.item()
        while search.at < search.end:
            search.skip(" ")
            search.item()
    except Stop as stop:
        if stop.args[0] is not None:
            return stop.args[0]
    return None if WHOLE.fullmatch(s) else search.end


def gatherings(s):
    """How many gatherings a formula has."""
    search = Search(s)
    while search.at < search.end:
        if search.at > 0:
            search.skip(" ")
        search.item()
    return len(search.names)
