"""Texts: books, puzzles and settings written in lines, and read again."""

from blendworlds.checks import as_set, tupled
from blendworlds.errors import BadLine, BadText
from blendworlds.puzzles import is_setting, is_tie
from blendworlds.words import are_number_words, is_number_word, kind_line, kind_of, lines_of, number_words
from blendworlds.words import row_of, row_word


def row_text(row):
    """The word for the row."""
    return row_word(row)


def read_row(book, text):
    """The tuple of values of the book that is written so."""
    row = row_of(book[0], text)
    if row is None:
        raise BadText(text)
    return row


def text_of(lines):
    """The text of the lines, each with its break."""
    return "".join([line + "\n" for line in lines])


def book_text(book):
    """The text of the book."""
    many, telling, kinds = book
    first = "book " + str(many) + (" telling" if telling else "")
    return text_of([first] + [kind_line(kind) for kind in kinds])


def book_begun(line):
    """The book without kinds whose text begins with this line; None if there is none."""
    words = line.split(" ")
    if len(words) < 2 or words[0] != "book" or words[2:] not in ([], ["telling"]):
        return None
    if words[1] not in [str(many) for many in range(1, 11)]:
        return None
    return int(words[1]), len(words) == 3, ()


def read_book(text):
    """The book with this text."""
    lines = lines_of(text)
    book = book_begun(lines[0]) if lines else None
    if book is None:
        raise BadLine(0)
    many, telling, _ = book
    kinds = [kind_of(many, line) for line in lines[1:]]
    if None in kinds:
        raise BadLine(kinds.index(None) + 1)
    return many, telling, tuple(kinds)


def tie_line(tie):
    """The line for a tie."""
    number, spots = tie
    return "tie " + str(number) + " : " + number_words(spots)


def puzzle_text(puzzle):
    """The text of the puzzle."""
    places, ties, told, shown = puzzle
    lines = ["puzzle " + str(places)] + [tie_line(tie) for tie in ties]
    lines.extend(["tell " + number_words(pair) for pair in told])
    return text_of(lines + (["show " + number_words(shown)] if shown else []))


def numbers_behind(words, count):
    """The tuple of the numbers that are written in words behind the first so many; None if other words are there."""
    words = words[count:]
    return tuple([int(word) for word in words]) if are_number_words(words) else None


def with_tie_line(book, puzzle, words):
    """The puzzle with the tie of these words of a line, too; None if there can be none."""
    places, ties, told, shown = puzzle
    spots = numbers_behind(words, 3)
    if told or shown or len(words) < 4 or words[2] != ":" or not is_number_word(words[1]) or spots is None:
        return None
    tie = (int(words[1]), spots)
    return (places, as_set(ties + (tie,)), told, shown) if is_tie(book, places, tie) else None


def with_tell_line(book, puzzle, words):
    """The puzzle with the told place of these words of a line, too; None if it can not be told so."""
    places, ties, told, shown = puzzle
    pair = numbers_behind(words, 1)
    if shown or not book[1] or pair is None or len(pair) != 2:
        return None
    if pair[0] >= places or pair[1] >= book[0] or pair[0] in dict(told):
        return None
    return places, ties, as_set(told + (pair,)), shown


def with_show_line(puzzle, words):
    """The puzzle that shows the places of these words of a line; None if it can not show them."""
    places, ties, told, shown = puzzle
    spots = numbers_behind(words, 1)
    if shown or not spots or not all([spot < places for spot in spots]):
        return None
    return places, ties, told, spots


def with_line(book, puzzle, line):
    """The puzzle with what the line says, too; None if this may not stand there."""
    words = line.split(" ")
    if words[0] == "tie":
        return with_tie_line(book, puzzle, words)
    if words[0] == "tell":
        return with_tell_line(book, puzzle, words)
    return with_show_line(puzzle, words) if words[0] == "show" else None


def puzzle_begun(line):
    """The puzzle without ties whose text begins with this line; None if there is none."""
    words = line.split(" ")
    if len(words) != 2 or words[0] != "puzzle" or not is_number_word(words[1]):
        return None
    return int(words[1]), (), (), ()


def read_puzzle(book, text):
    """The puzzle of the book with this text."""
    book, lines = tupled(book), lines_of(text)
    puzzle = puzzle_begun(lines[0]) if lines else None
    if puzzle is None:
        raise BadLine(0)
    for at, line in enumerate(lines[1:]):
        puzzle = with_line(book, puzzle, line)
        if puzzle is None:
            raise BadLine(at + 1)
    return puzzle


def settings_text(rows):
    """The text with a line for each row."""
    return text_of([row_word(row) for row in rows])


def read_settings(book, puzzle, text):
    """The tuple of the settings of the puzzle that are written in the lines of the text."""
    book, puzzle = tupled(book), tupled(puzzle)
    found = []
    for at, line in enumerate(lines_of(text)):
        row = row_of(book[0], line)
        if row is None or not is_setting(book, puzzle, row):
            raise BadLine(at)
        found.append(row)
    return tuple(found)
