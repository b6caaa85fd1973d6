"""What the program itself tells of a formula, gathering by gathering."""

from makeup import ROW_SIGNS
from makeups.formulas import item, judge


def told_gatherings(text):
    """Of each gathering of the formula, a list of characters: (sign, times, size) and its word."""
    answers = [item(i, text) for i in range(judge(text)[0])]
    return [(tuple(answer[:3]), "".join(ROW_SIGNS[sign - 1] for sign in answer[7:])) for answer in answers]
