"""Tables written as texts, and read."""

from quadwords.errors import NoText

FIGURES = "0123456789"
MOST_FIGURES = 200


def figures_of(number):
    """The figures of a whole number from 0 on."""
    # Python doesn't write numbers of some thousand figures at once, so they are written piece by piece.
    pieces = []
    while number >= 10 ** 64:
        number, piece = divmod(number, 10 ** 64)
        pieces.append(str(piece).zfill(64))
    pieces.append(str(number))
    return "".join(pieces[::-1])


def number_text(number):
    """A whole number, written."""
    return "-" + figures_of(-number) if number < 0 else figures_of(number)


def table_text(table):
    """A table, written."""
    return ",".join([number_text(number) for number in table])


def is_figures(text):
    """Whether a text is the figures of a whole number from 0 on."""
    if not 1 <= len(text) <= MOST_FIGURES or text.strip(FIGURES) != "":
        return False
    return text == "0" or not text.startswith("0")


def is_number_text(text):
    """Whether a text is a written whole number."""
    return is_figures(text[1:] if text.startswith("-") else text) and text != "-0"


def read_table(text):
    """The table that a text writes, or NoText."""
    if not isinstance(text, str):
        raise NoText("a table is read of a text")
    parts = text.split(",")
    if len(parts) != 4 or not all([is_number_text(part) for part in parts]):
        raise NoText("a table is written as four numbers with commas between")
    return tuple([int(part) for part in parts])
