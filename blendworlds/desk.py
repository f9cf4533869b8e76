"""A desk: requests to a board, written in lines, and the replies to them."""

from blendworlds.board import Board
from blendworlds.errors import BadLine, CanNot, NoKind, NoPlace, NothingDone, NoValue, Unfit
from blendworlds.words import are_number_words, is_number_word, kind_line, kind_of

# the requests of one word, that ask, and those of a word and numbers, with how many these are
ASKING = ("count", "deeds", "places", "solved", "told", "sets", "sure", "seen", "hints", "shown", "wrong", "changed",
          "ties", "broken", "kinds")
NUMBERED = {"more": 0, "undo": 0, "untell": 1, "clear": 1, "unkind": 1, "tell": 2, "put": 2}


def is_line(many, line):
    """Whether the line is a request to a board of so many values."""
    words = line.split(" ")
    word, rest = words[0], words[1:]
    if word in ASKING:
        return not rest
    if word in NUMBERED:
        return len(rest) == NUMBERED[word] and are_number_words(rest)
    if word in ("tie", "untie"):
        return len(rest) > 2 and rest[1] == ":" and are_number_words(rest[:1] + rest[2:])
    if word == "show":
        return rest == ["-"] or len(rest) > 0 and are_number_words(rest)
    return kind_of(many, line) is not None


def is_request(book, thing):
    """Whether thing is a string that is a request."""
    return isinstance(thing, str) and is_line(book[0], thing)


def do_deed(board, word, numbers):
    """Does the deed of this word and these numbers."""
    if word == "tie":
        board.tie(numbers[0], numbers[1:])
    elif word == "untie":
        board.untie((numbers[0], numbers[1:]))
    elif word == "tell":
        board.tell(numbers[0], numbers[1])
    elif word == "untell":
        board.untell(numbers[0])
    elif word == "show":
        board.show(numbers)
    elif word == "more":
        board.more()
    elif word == "put":
        board.put(numbers[0], numbers[1])
    elif word == "clear":
        board.clear(numbers[0])
    elif word == "unkind":
        board.unkind(numbers[0])
    else:
        board.undo()


def pair_words(pairs):
    """The words for pairs of a place and a value."""
    return [str(place) + "=" + str(value) for place, value in pairs]


def place_words(places):
    """The words for places."""
    return [str(place) for place in places]


def tie_words(ties):
    """The words for ties."""
    return [str(number) + ":" + ".".join([str(spot) for spot in spots]) for number, spots in ties]


def words_asked(board, word):
    """The list of the words of the reply to this word, which asks for several things."""
    _, ties, told, shown = board.puzzle()
    if word == "told":
        return pair_words(told)
    if word == "sets":
        return pair_words(board.sets())
    if word == "sure":
        return pair_words(board.sure())
    if word == "seen":
        return pair_words(board.seen())
    if word == "hints":
        return pair_words(board.hints())
    if word == "shown":
        return place_words(shown)
    if word == "wrong":
        return place_words(board.wrong())
    if word == "changed":
        return place_words(board.changed())
    return tie_words(ties if word == "ties" else board.broken())


def told_answer(board, word):
    """The reply to this word, which asks for something."""
    if word == "count":
        return str(board.count())
    if word == "deeds":
        return str(len(board))
    if word == "places":
        return str(board.puzzle()[0])
    if word == "solved":
        return "yes" if board.is_done() else "no"
    if word == "kinds":
        lines = [kind_line(kind) for kind in board.book()[2]]
        return " / ".join(lines) if lines else "-"
    words = words_asked(board, word)
    return " ".join(words) if words else "-"


def granted(board, line):
    """The reply to a request that is not refused."""
    words = line.split(" ")
    if words[0] in ASKING:
        return told_answer(board, words[0])
    if words[0] == "kind":
        board.kind(kind_of(board.book()[0], line))
    else:
        do_deed(board, words[0], tuple([int(word) for word in words if is_number_word(word)]))
    return "done"


def reply_to(board, line):
    """The reply to a request."""
    try:
        return granted(board, line)
    except NoKind as no_kind:
        return "refused NoKind " + str(no_kind.number)
    except NoPlace as no_place:
        return "refused NoPlace " + str(no_place.number)
    except NoValue as no_value:
        return "refused NoValue " + str(no_value.number)
    except Unfit:
        return "refused Unfit"
    except CanNot:
        return "refused CanNot"
    except NothingDone:
        return "refused NothingDone"


def replies(book, places, text):
    """The list of the replies to the lines of the text, put to a new board."""
    lines = text.split("\n") if text else []
    for at, line in enumerate(lines):
        if not is_request(book, line):
            raise BadLine(at)
    board, found = Board(book, places), []
    for line in lines:
        found.append(reply_to(board, line))
    return found
