"""Texts of FRACTIONS, ROWS, SHEETS, POLYS, RULES, CLOCKS and PLANTS, and what has just such a text."""

from handsunread.basics import NONE, ONE, is_fraction, times
from handsunread.errors import BadLine, BadText, Unfit
from handsunread.polys import trimmed

FIGURES = "0123456789"
MOST_FIGURES = 400
MOST_POWER = 40
# str takes no number of more than some thousand figures: a greater one is written in parts of so many.
PART = 64
# Behind which words each line of a PLANT may stand; the first line stands behind "".
BEHIND = {
    "cell": ("", "cell"), "hand": ("", "cell", "hand", "lever", "gauge"), "lever": ("hand", "lever"),
    "gauge": ("hand", "lever", "gauge"),
}


def figures(number):
    """The figures of a number from 0."""
    much, parts = 10 ** 64, []
    left = number
    while left >= much:
        left, rest = divmod(left, much)
        parts.append(str(rest).zfill(PART))
    parts.append(str(left))
    return "".join(parts[::-1])


def fraction_text(fraction):
    top, bottom = fraction
    text = figures(abs(top))
    if top < 0:
        text = "-" + text
    if bottom != 1:
        text = text + "/" + figures(bottom)
    return text


def row_text(row):
    return sheet_text((row,))


def sheet_text(sheet):
    if not sheet:
        return "none"
    return ", ".join([" ".join([part_text(part) for part in row]) if row else "-" for row in sheet])


def part_text(part):
    return "?" if part is None else fraction_text(part)


def poly_text(poly):
    words = []
    for power in range(len(poly) - 1, -1, -1):
        top, bottom = poly[power]
        if top:
            words.extend(["-" if top < 0 else "+", term_text((abs(top), bottom), power)])
    if not words:
        return "0"
    first = words[1] if words[0] == "+" else "-" + words[1]
    return " ".join([first] + words[2:])


def term_text(size, power):
    """The term with this FRACTION, above 0."""
    if power == 0:
        return fraction_text(size)
    name = "x" if power == 1 else "x^" + str(power)
    return name if size == ONE else fraction_text(size) + " " + name


def rules_text(rules):
    if not rules:
        return "idle"
    return " | ".join([sheet_text(rule) for rule in rules])


def clock_text(clock):
    return "\n".join([rules_text(rules) for rules in clock])


def plant_text(plant):
    table, hands = plant
    lines = ["cell " + row_text(row) for row in table]
    for levers, gauges in hands:
        lines.append("hand")
        lines.extend(["lever " + row_text(row) for row in levers])
        lines.extend(["gauge " + row_text(row) for row in gauges])
    return "\n".join(lines)


def is_figures(text):
    """Whether text is a number from 0 in at most 400 figures, without a needless 0."""
    if not text or len(text) > MOST_FIGURES or not all([sign in FIGURES for sign in text]):
        return False
    return text == "0" or text[0] != "0"


def fraction_in(text):
    below = text.startswith("-")
    parts = (text[1:] if below else text).split("/")
    if len(parts) > 2 or not all([is_figures(part) for part in parts]):
        raise BadText()
    top = int(parts[0])
    found = (-top if below else top, int(parts[1]) if len(parts) == 2 else 1)
    # What is read generously has another text.
    if not is_fraction(found) or fraction_text(found) != text:
        raise BadText()
    return found


def row_in(text):
    if text == "-":
        return ()
    return tuple([fraction_in(word) for word in text.split(" ")])


def sheet_in(text):
    if text == "none":
        return ()
    rows = [sheet_row_in(part) for part in text.split(", ")]
    if not all([len(row) == len(rows[0]) for row in rows]):
        raise BadText()
    return tuple(rows)


def sheet_row_in(text):
    """The ROW of a SHEET that has this text."""
    if text == "-":
        return ()
    return tuple([None if word == "?" else fraction_in(word) for word in text.split(" ")])


def table_in(text):
    """The TABLE that has this text."""
    table = sheet_in(text)
    if any([None in row for row in table]):
        raise BadText()
    return table


def poly_in(text):
    below = text.startswith("-")
    words = ["-" if below else "+"] + (text[1:] if below else text).split(" ")
    row = [NONE] * (MOST_POWER + 1)
    while words:
        sign = words.pop(0)
        if sign not in ("+", "-") or not words:
            raise BadText()
        size, power = taken_term(words)
        row[power] = times(size, (-1, 1)) if sign == "-" else size
    poly = trimmed(row)
    # Terms twice or out of order, and what is written needlessly, have another text.
    if poly_text(poly) != text:
        raise BadText()
    return poly


def taken_term(words):
    """The FRACTION and the power of the first term of a list of words, one at least, which are taken off it."""
    if words[0].startswith("x"):
        return ONE, power_in(words.pop(0))
    size = fraction_in(words.pop(0))
    if words and words[0].startswith("x"):
        return size, power_in(words.pop(0))
    return size, 0


def power_in(word):
    """The power that is told by x or x^ and a number."""
    if word == "x":
        return 1
    if not word.startswith("x^") or not is_figures(word[2:]) or int(word[2:]) > MOST_POWER:
        raise BadText()
    return int(word[2:])


def rules_in(text):
    if text == "idle":
        return ()
    return tuple([table_in(part) for part in text.split(" | ")])


def lines_of(text):
    """The lines of a text; the empty text has none."""
    return text.split("\n") if text else []


def clock_in(text):
    found = []
    for number, line in enumerate(lines_of(text)):
        try:
            found.append(rules_in(line))
        except BadText:
            raise BadLine(number)
    return tuple(found)


def plant_in(text):
    parts, last = [], ""
    for number, line in enumerate(lines_of(text)):
        try:
            word, row = plant_line_in(line)
        except BadText:
            raise BadLine(number)
        if last not in BEHIND[word]:
            raise BadLine(number)
        parts.append((word, row))
        last = word
    table = tuple([row for word, row in parts if word == "cell"])
    many = len(table)
    if not many or not all([len(row) == many for word, row in parts if word != "hand"]):
        raise Unfit()
    return table, hands_of(parts)


def plant_line_in(line):
    """The word and the ROW of a line of a PLANT; of a hand the ROW is ()."""
    if line == "hand":
        return line, ()
    word, _, text = line.partition(" ")
    if word not in ("cell", "lever", "gauge"):
        raise BadText()
    return word, row_in(text)


def hands_of(parts):
    """The HANDS that the pairs of a word and a ROW tell."""
    hands = []
    for word, row in parts:
        if word == "hand":
            hands.append(((), ()))
        elif word == "lever":
            levers, gauges = hands.pop()
            hands.append((levers + (row,), gauges))
        elif word == "gauge":
            levers, gauges = hands.pop()
            hands.append((levers, gauges + (row,)))
    return tuple(hands)
