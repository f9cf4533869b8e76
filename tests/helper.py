"""What the tests share: books and puzzles, plain ways to work out what is asked, checks of calls."""

import ast
import copy
import itertools
import random

import blendworlds.errors

UNLIKE = (3, True, ((2, ((0, 1), (0, 2), (1, 0), (1, 2), (2, 0), (2, 1))),))
SMALL = (2, True, ((2, ((0, 0), (0, 1), (1, 1))), (1, ((1,),))))
MIXED = (3, True, ((3, ((0, 0, 1), (0, 1, 2), (1, 1, 1), (2, 0, 2))), (2, ((0, 0), (1, 2), (2, 1))), (1, ((0,), (2,)))))
LINE = (3, ((0, (0, 1)), (0, (1, 2))), ((0, 2),), (0, 2))


def listed(value):
    """value with lists in the place of tuples, at any depth."""
    if isinstance(value, (list, tuple)):
        return [listed(part) for part in value]
    return value


def half_listed(value, depth=0):
    """value with lists in the place of tuples, at every second depth."""
    if isinstance(value, (list, tuple)):
        parts = [half_listed(part, depth + 1) for part in value]
        return parts if depth % 2 else tuple(parts)
    return value


def has_list(value):
    return isinstance(value, list) or isinstance(value, tuple) and any(has_list(part) for part in value)


def is_plain_result(value):
    """Whether value is no list, or a list of what has no list in it."""
    return not any(has_list(part) for part in value) if isinstance(value, list) else not has_list(value)


def told_error(text):
    """The class and the values of an error that is written like NoKind(number=2)."""
    call = ast.parse(text.strip(), mode="eval").body
    values = {word.arg: ast.literal_eval(word.value) for word in call.keywords}
    return getattr(blendworlds.errors, call.func.id), values


def check_raises(case, text, function, /, *given, **named):
    """Checks that the call raises just the error that text writes."""
    kind, values = told_error(text)
    with case.assertRaises(kind) as caught:
        function(*given, **named)
    case.assertIs(type(caught.exception), kind)
    case.assertEqual(vars(caught.exception), values)
    case.assertEqual([type(part) for part in vars(caught.exception).values()], [type(part) for part in values.values()])


def check_examples(case, text, names):
    """Runs the lines behind >>> of text, and checks what stands below those that are expressions."""
    lines = [line.strip() for line in text.splitlines() if line.strip()]
    checked = 0
    for at, line in enumerate(lines):
        if not line.startswith(">>> "):
            continue
        code = line[4:]
        below = lines[at + 1] if at + 1 < len(lines) else ">>> "
        if below.startswith(">>> "):
            exec(code, names)
        elif below.startswith("raises "):
            check_raises(case, below[7:], eval, code, names)
            checked += 1
        else:
            case.assertEqual(repr(eval(code, names)), repr(ast.literal_eval(below)), code)
            checked += 1
    return checked


def check_call(case, function, named, things=()):
    """Checks one call in all forms: by position, by name, with lists; that it changes and keeps nothing."""
    before = copy.deepcopy(named)
    expected = function(**named)
    case.assertEqual(named, before)
    case.assertTrue(is_plain_result(expected), function.__name__)
    case.assertEqual(repr(function(*named.values())), repr(expected))
    for changed in (listed, half_listed):
        other = {name: value if name in things else changed(value) for name, value in named.items()}
        kept = copy.deepcopy(other)
        case.assertEqual(repr(function(**other)), repr(expected), function.__name__)
        case.assertEqual(repr(other), repr(kept), function.__name__)
    if isinstance(expected, list):
        again = function(**named)
        case.assertIsNot(again, expected)
        again.append("more")
        case.assertEqual(repr(function(**named)), repr(expected))


def check_judge(case, function, named):
    """Checks that the call, of a thing that is as stated, tells so in all forms."""
    case.assertIs(function(**named), True)
    check_call(case, function, named, ("thing",))


def check_refusal(case, text, function, named):
    """Checks that the call raises the error in all forms."""
    check_raises(case, text, function, **named)
    check_raises(case, text, function, *named.values())
    check_raises(case, text, function, **listed(list_values(named)))
    check_raises(case, text, function, **half_list_values(named))


def list_values(named):
    return {name: listed(value) for name, value in named.items()}


def half_list_values(named):
    return {name: half_listed(value) for name, value in named.items()}


def keeps(book, puzzle, setting):
    """Whether setting is one of the puzzle, worked out from the words of the document alone."""
    for number, spots in puzzle[1]:
        if tuple(setting[spot] for spot in spots) not in book[2][number][1]:
            return False
    return all(setting[place] == value for place, value in puzzle[2])


def all_settings(book, puzzle):
    """All settings, by trying all tuples of values."""
    return [row for row in itertools.product(range(book[0]), repeat=puzzle[0]) if keeps(book, puzzle, row)]


def some_books(seed, many):
    """As many books, without order but the same ones each time."""
    dice = random.Random(seed)
    return [a_book(dice) for _ in range(many)]


def a_book(dice):
    values = dice.randint(1, 3)
    kinds = []
    for _ in range(dice.randint(0, 4)):
        width = dice.randint(1, 3)
        rows = list(itertools.product(range(values), repeat=width))
        most = min(8, len(rows))
        kinds.append((width, tuple(sorted(dice.sample(rows, dice.choice((most, dice.randint(0, most))))))))
    return values, dice.random() < 0.5, tuple(kinds)


def a_puzzle(dice, book):
    places = dice.choice((0, 1, 2, 3, 3, 4, 4, 5, 6))
    ties = set()
    for _ in range(dice.randint(0, 7)):
        if places and book[2]:
            number = dice.randrange(len(book[2]))
            ties.add((number, tuple(dice.randrange(places) for _ in range(book[2][number][0]))))
    told = [(place, dice.randrange(book[0])) for place in range(places) if book[1] and dice.random() < 0.2]
    shown = tuple(dice.randrange(places) for _ in range(dice.randint(0, 4))) if places else ()
    return places, tuple(sorted(ties)), tuple(told), shown


def some_puzzles(seed, many):
    """Pairs of a book and a puzzle of it, as many, the same ones each time."""
    dice = random.Random(seed)
    pairs = []
    for _ in range(many):
        book = a_book(dice)
        pairs.append((book, a_puzzle(dice, book)))
    return pairs
