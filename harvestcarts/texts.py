"""Texts of plans, and charts of them."""

from harvestcarts.checks import check_number, is_name
from harvestcarts.errors import InvalidText
from harvestcarts.plans import Plan, first_rot

DIGITS = "0123456789"
LEAD_WORD = "lead"
NOTHING = "-"
MAX_LEAD_DIGITS = 4
NAME_WIDTH = 8
COUNT_WIDTH = 5
MAX_CHART_DAYS = 60


def _row_of(names):
    """Return the row of a day."""
    if not names:
        return NOTHING
    return " ".join(names)


def format_plan(plan):
    """Return the text of a plan."""
    rows = [f"{LEAD_WORD} {plan.lead}"]
    rows.extend([_row_of(names) for names in plan.days])
    return "\n".join(rows)


def _is_lead(word):
    """Tell whether a word is a number with one to four digits without leading zeros."""
    if not 1 <= len(word) <= MAX_LEAD_DIGITS or not all([sign in DIGITS for sign in word]):
        return False
    return word == "0" or word[0] != "0"


def _lead_of(row):
    """Return the lead that the first row of a text tells."""
    words = row.split(" ")
    if words[0] != LEAD_WORD:
        raise InvalidText(row=0, word=0)
    if len(words) < 2 or not _is_lead(words[1]):
        raise InvalidText(row=0, word=1)
    if len(words) > 2:
        raise InvalidText(row=0, word=2)
    return int(words[1])


def _names_of(row, number):
    """Return the tuple of the names in a row, which has this number."""
    if row == NOTHING:
        return ()
    words = row.split(" ")
    for place, word in enumerate(words):
        if not is_name(word):
            raise InvalidText(row=number, word=place)
    return tuple(words)


def parse_plan(text):
    """Return the plan of a text."""
    rows = text.split("\n")
    lead = _lead_of(rows[0])
    days = [_names_of(row, place + 1) for place, row in enumerate(rows[1:])]
    return Plan(*days, lead=lead)


def _sign_of(plan, day, name, rot):
    """Return the sign of a field on a day, where `rot` is what first_rot tells."""
    if name in plan[day]:
        return "#"
    if rot == (day, name):
        return "!"
    return "."


def chart(farm, plan, days):
    """Return a chart of the first days of a plan, a line for each field."""
    rot = first_rot(farm, plan)
    check_number(days, 1, MAX_CHART_DAYS)
    lines = []
    for name in farm.names:
        signs = "".join([_sign_of(plan, day, name, rot) for day in range(days)])
        count = str(signs.count("#"))
        lines.append(name.ljust(NAME_WIDTH) + signs + count.rjust(COUNT_WIDTH))
    return "\n".join(lines)
