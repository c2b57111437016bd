"""Writes calls as the interface asks for them, and reads the answers back call by call."""

from boundbook.sheets import answers

PLAIN, DIGITS, ROMAN, HOW_FAR = 0, 1, 2, 3

GREATEST = 4294967295


def call(number, numbers):
    return [number, len(numbers)] + list(numbers) + [0]


def begins(wide=60, high=30, first=1, here=4, ahead=16, before=5):
    return call(0, [wide, high, first, here, ahead, before])


def para(words, begins_page=0):
    numbers = [begins_page]
    for word in words:
        numbers.extend(word)
    return call(1, numbers)


def settles():
    return call(2, [])


def bind(rows, columns, steps, sheet_count=1, within=0):
    return call(3, [rows, columns, len(steps)] + list(steps) + [sheet_count, within])


def sheets():
    return call(4, [])


def side(gathering, sheet, back):
    return call(5, [gathering, sheet, back])


def find(word):
    return call(6, [word])


def leaf(gathering, i):
    return call(7, [gathering, i])


def refs():
    return call(8, [])


def plain(length=1, own_mark=0):
    return (PLAIN, length, own_mark)


def digits(mark, own_mark=0):
    return (DIGITS, mark, own_mark)


def roman(mark, own_mark=0):
    return (ROMAN, mark, own_mark)


def how_far(mark, own_mark=0):
    return (HOW_FAR, mark, own_mark)


def line_of(calls):
    return [number for one in calls for number in one]


def ask(*calls):
    """Answer the calls on one new book, as a list of answers."""
    given = answers(line_of(calls))
    separate = []
    at = 0
    while at < len(given):
        end = at + 1 + given[at]
        separate.append(given[at + 1:end])
        at = end
    assert at == len(given), "an answer's count doesn't fit"
    return separate


def last(*calls):
    return ask(*calls)[-1]
