"""Reading of texts: which are good, how the others are refused, and the patterns that they tell."""

from motiffield.errors import TooGreat, WrongSign
from motiffield.forms import SIGNS, Mirror, Motif, Over, Rehue, Shifted, Turn
from motiffield.sizes import DEEP, MOST

# The most rows of a motif, and the most signs of a row.
LONGEST = 8


class Pattern:
    """What a good text tells: the text, its family of shifts, and its outermost form."""

    def __init__(self, text, shifts, form):
        self.text = text
        self.shifts = shifts
        self.form = form


class Reading:
    """A text, and the place that its reading has come to.

    No sign is passed but where some good text goes on with it, so the place of a refusal is the first wrong sign's.
    """

    def __init__(self, text):
        self.text = text
        self.place = 0

    def may_take(self, allowed):
        """The next sign where it is an allowed one, else an empty text."""
        if self.place == len(self.text) or self.text[self.place] not in allowed:
            return ""
        self.place = self.place + 1
        return self.text[self.place - 1]

    def take(self, allowed):
        """The next sign, which has to be an allowed one."""
        sign = self.may_take(allowed)
        if sign == "":
            raise WrongSign(self.place)
        return sign


def number_from(reading):
    """A whole number from -12 to 12, written in the one usual way."""
    if reading.may_take("0") == "0":
        return 0
    written = reading.may_take("-") + reading.take("123456789")
    if written.endswith("1"):
        written = written + reading.may_take("012")
    return int(written)


def shift_from(reading):
    x = number_from(reading)
    reading.take(",")
    return (x, number_from(reading))


def line_from(reading, least, most):
    """A row of a motif, with as many signs from the least to the most as there are."""
    line = ""
    for column in range(most):
        line = line + (reading.take(SIGNS) if column < least else reading.may_take(SIGNS))
    return line


def lines_from(reading):
    lines = [line_from(reading, 1, LONGEST)]
    width = len(lines[0])
    while len(lines) < LONGEST and reading.may_take("/") == "/":
        lines.append(line_from(reading, width, width))
    return lines


def motif_from(reading):
    place = reading.place
    reading.take("[")
    lines = lines_from(reading)
    reading.take(";")
    first = shift_from(reading)
    reading.take(";")
    second = shift_from(reading)
    reading.take("]")
    return Motif(place, lines, first, second)


def over_from(reading, around):
    above = form_from(reading, around)
    reading.take("|")
    below = form_from(reading, around)
    reading.take(")")
    return Over(above, below)


def shifted_from(reading, around):
    shift = shift_from(reading)
    reading.take(":")
    return Shifted(form_from(reading, around), shift[0], shift[1])


def rehue_from(reading, around):
    old = int(reading.take("123456"))
    new = int(reading.take("123456"))
    return Rehue(form_from(reading, around), old, new)


def form_from(reading, around):
    """The form that begins at the next sign, within so many other forms."""
    # Within the most forms a motif alone can begin; a motif takes any other sign for a wrong one.
    sign = reading.may_take("(smth") if around < DEEP else ""
    if sign == "(":
        return over_from(reading, around + 1)
    if sign == "s":
        return shifted_from(reading, around + 1)
    if sign == "m":
        return Mirror(form_from(reading, around + 1))
    if sign == "t":
        return Turn(form_from(reading, around + 1))
    if sign == "h":
        return rehue_from(reading, around + 1)
    return motif_from(reading)


def read(text):
    """The pattern of a text."""
    reading = Reading(text)
    form = form_from(reading, 0)
    if reading.place < len(text):
        raise WrongSign(reading.place)
    # The whole text is good here; its family refuses a motif along one line ahead of a field too great.
    family = form.family()
    if family[0] * family[1] > MOST:
        raise TooGreat("the family of the text has too many cells")
    return Pattern(text, family, form)
