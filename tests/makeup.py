"""Make-ups as the tests hold them, their formulas and words, written apart from the program."""

CAPITALS = "ABCDEFGHIKLMNOPQRSTVXYZ"
SIGNS = CAPITALS + CAPITALS.lower() + "πχ*†"
RAISED = str.maketrans("0123456789", "⁰¹²³⁴⁵⁶⁷⁸⁹")
SIZES = (1, 2, 4, 6, 8, 10, 12, 14, 16, 18, 20)
ROW_SIGNS = "|()[]"

# Texts that every call refuses: with -6, with -2.
NO_FORMULAS = ("", "A", "A⁷", "1A⁸", "A⁸ A⁸", "A⁸ B⁸", "A⁸(−9)", "A¹(−1)", "A²⁰(0+2)", "A⁸x", "A–3C⁸", "A" * 16384)
TOO_LONG = ("A" * 16385, "A⁸(0+⟨" + "|" * 16379, " " * 32768)


def chars(text):
    return [ord(c) for c in text]


def gathering(signature, size, lost=(), cut=(), put=None):
    """A gathering of a make-up; signature as a text, put: what is put in, by its gap."""
    return {"signature": signature, "size": size, "lost": set(lost), "cut": set(cut), "put": dict(put or {})}


def signature(sign, times):
    return (str(times) if times > 1 else "") + SIGNS[sign]


def sign_and_times(text):
    return SIGNS.index(text[-1]), int(text[:-1] or "1")


def row_after(text):
    """The rank of a letter's signature among those of its kind: (kind, rank), or None."""
    sign, times = sign_and_times(text)
    return None if sign > 45 else (sign // 23, (times - 1) * 23 + sign % 23)


def comes_behind(before, behind):
    first, second = row_after(before), row_after(behind)
    return first is not None and second == (first[0], first[1] + 1)


def notes(g):
    told = []
    for k in range(g["size"] + 1):
        if k in g["lost"]:
            told.append(f"−{k}")
        if k in g["cut"]:
            told.append(f"÷{k}")
        if g["put"].get(k):
            row = g["put"][k]
            told.append(f"{k}+{len(row)}" if set(row) == {"|"} and len(row) < 10 else f"{k}+⟨{row}⟩")
    return told


def formula(makeup):
    """The formula of a make-up: neighbours that belong together are drawn into one item."""
    runs = []
    for g in makeup:
        last = runs[-1][-1] if runs else None
        if (last and not notes(last) and not notes(g) and last["size"] == g["size"]
                and comes_behind(last["signature"], g["signature"])):
            runs[-1].append(g)
        else:
            runs.append([g])
    told = []
    for run in runs:
        names = run[0]["signature"] + ("–" + run[-1]["signature"] if len(run) > 1 else "")
        inside = ", ".join(notes(run[0]))
        told.append(names + str(run[0]["size"]).translate(RAISED) + (f"({inside})" if inside else ""))
    return " ".join(told)


def word(g):
    n = g["size"]
    row = g["put"].get(0, "")
    for k in range(1, n + 1):
        partner = n + 1 - k
        if k in g["lost"]:
            own = ""
        elif k in g["cut"]:
            own = "[]"[k > n // 2]
        elif n == 1 or partner in g["lost"]:
            own = "|"
        else:
            own = "()"[k > n // 2]
        row += own + g["put"].get(k, "")
    return row


def item_answer(makeup, i):
    """What item must answer of gathering i of the make-up."""
    rows = [word(g) for g in makeup]
    leaves = [len(row) - row.count("[") - row.count("]") for row in rows]
    sign, times = sign_and_times(makeup[i]["signature"])
    return ([sign, times, makeup[i]["size"], leaves[i], len(rows[i]) - leaves[i], sum(leaves[:i]), len(rows[i])]
            + signs(rows[i]))


def partner_place(row, place):
    """The place of a sign's partner: the nearest one so that what stands between is paired within itself."""
    if row[place] == "|":
        return place
    step = 1 if row[place] in "([" else -1
    depth, k = 0, place
    while True:
        depth += {"(": 1, "[": 1, ")": -1, "]": -1, "|": 0}[row[k]]
        if depth == 0:
            return k
        k += step


def leaf_answers(makeup):
    """What leaf must answer of each leaf of the make-up, in order."""
    leaves = [(i, place) for i, g in enumerate(makeup) for place, c in enumerate(word(g)) if c in "|()"]
    answers = []
    for number, (i, place) in enumerate(leaves):
        partner = (i, partner_place(word(makeup[i]), place))
        first = min(k for k in range(len(leaves)) if leaves[k][0] == i)
        answers.append([i, number - first, place, leaves.index(partner) if partner in leaves else -1])
    return answers


def mixed_gatherings(size):
    """Every gathering of this size whose leaves are each whole, lost, cut, or whole with something behind."""
    leaves = range(1, size + 1)
    for number in range(4 ** size):
        states = [0] + [number // 4 ** k % 4 for k in range(size)]
        lost = [k for k in leaves if states[k] == 1]
        cut = [k for k in leaves if states[k] == 2]
        put = {k: ("|", "(]", "[)|")[k % 3] for k in leaves if states[k] == 3}
        g = gathering("A", size, lost, cut, put)
        wrong = size == 1 and cut or any(size + 1 - k in lost + cut for k in cut)
        if not wrong and 0 < len(word(g)) <= 21:
            yield g


def changed_row(row, place, is_cut):
    """The row with the leaf at the place lost or cut."""
    partner, signs = partner_place(row, place), list(row)
    if partner == place or row[partner] in "[]":
        signs[place] = signs[partner] = ""
    elif is_cut:
        signs[place] = {"(": "[", ")": "]"}[row[place]]
    else:
        signs[place], signs[partner] = "", "|"
    return "".join(signs)


def leaves_of(g):
    """Of each leaf of the gathering, in order: leaf k as (k, None), what's put in at gap k as (k, its place there)."""
    leaves = []
    for k in range(g["size"] + 1):
        if k > 0 and k not in g["lost"] | g["cut"]:
            leaves.append((k, None))
        leaves += [(k, place) for place, c in enumerate(g["put"].get(k, "")) if c in "|()"]
    return leaves


def copied(makeup):
    return [gathering(**g) for g in makeup]


def changed_makeup(makeup, number, is_cut):
    """The make-up with the leaf of that number lost or cut."""
    makeup = copied(makeup)
    g, (k, place) = [(g, leaf) for g in makeup for leaf in leaves_of(g)][number]
    partner = g["size"] + 1 - k
    if place is not None:
        g["put"][k] = changed_row(g["put"][k], place, is_cut)
    elif is_cut and g["size"] > 1 and partner not in g["lost"] | g["cut"]:
        g["cut"].add(k)
    else:
        g["lost"] |= {k, partner} if partner in g["cut"] else {k}
        g["cut"] -= {partner}
    return [g for g in makeup if word(g)]


def put_makeup(makeup, i, k, row):
    """The make-up with the row put in at gap k of gathering i."""
    makeup = copied(makeup)
    makeup[i]["put"][k] = makeup[i]["put"].get(k, "") + row
    return makeup


def signs(row):
    """The row as its signs' numbers."""
    return [ROW_SIGNS.index(c) + 1 for c in row]


def text_of(answer):
    """The formula that was answered, as a text; its length must be right."""
    if answer[0] != len(answer) - 1:
        raise AssertionError(f"not a formula's answer: {answer}")
    return "".join(map(chr, answer[1:]))


def book(*gatherings):
    """A make-up in which the gatherings stand between others."""
    return [gathering("π", 2, cut=[1]), *gatherings, gathering("B", 2), gathering("χ", 1, put={0: "(]"})]
