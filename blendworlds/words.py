"""Words and lines of texts: numbers and rows as they are written, and how they are read."""

FIGURES = "0123456789"


def lines_of(text):
    """The list of the lines of a text; behind its last break there is none, if nothing stands there."""
    lines = text.split("\n")
    return lines if lines[-1] else lines[:-1]


def are_figures(word):
    """Whether the word is written in figures alone, one at least."""
    return word != "" and all([sign in FIGURES for sign in word])


def is_number_word(word):
    """Whether the word is a number, without needless zeros and signs."""
    return are_figures(word) and (word == "0" or word[0] != "0")


def are_number_words(words):
    """Whether all words are numbers."""
    return all([is_number_word(word) for word in words])


def number_words(numbers):
    """The words for the numbers, with a blank between each two."""
    return " ".join([str(number) for number in numbers])


def row_word(row):
    """The word for a row: its values one behind another."""
    return "".join([str(value) for value in row]) if row else "-"


def row_of(many, word):
    """The row of so many values that is written so; None if there is none."""
    if word == "-":
        return ()
    if not are_figures(word):
        return None
    row = tuple([int(sign) for sign in word])
    return row if all([value < many for value in row]) else None


def kind_line(kind):
    """The line for a kind."""
    width, rows = kind
    words = "".join([" " + row_word(row) for row in rows])
    return "kind " + str(width) + (" :" + words if rows else "")


def kind_of(many, line):
    """The kind of so many values that is written so, rows in any order and again; None if there is none."""
    words = line.split(" ")
    if len(words) < 2 or words[0] != "kind" or words[1] not in ("1", "2", "3"):
        return None
    width, rest = int(words[1]), words[2:]
    if rest and (rest[0] != ":" or len(rest) == 1):
        return None
    rows = [row_of(many, word) for word in rest[1:]]
    if not all([row is not None and len(row) == width for row in rows]):
        return None
    return width, tuple(sorted(set(rows)))
