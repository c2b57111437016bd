"""The calls on one book, handed in and answered as whole numbers one behind another."""

from boundbook.binding import Binding, can_lie_within, first_binding, gathering_pages, sheet_count_fits, sheet_fits
from boundbook.book import Book, Frame, add_paragraph, first_frame, frame_fits, marks_are_new
from boundbook.book import words_fit, words_have_room, words_told
from boundbook.plan import pile_of
from boundbook.printing import Printed, blank_pages, gatherings_of_book, has_leaf, has_side, has_word
from boundbook.printing import leaf_told, pages_of_book, references_told, side_told, word_found
from boundbook.setting import settled

OUT_OF_BOUNDS = -1
MARK_TWICE = -3
NO_LAST_FOLD = -4
TOO_MANY_WORDS = -5
NOT_THERE = -6
UNSETTLED = -7


class Work:
    def __init__(self):
        self.book = Book(first_frame())
        self.binding = first_binding()


def answer_begins(work, numbers):
    if not frame_fits(numbers):
        return [OUT_OF_BOUNDS]
    work.book = Book(Frame(numbers[0], numbers[1], numbers[2], numbers[3], numbers[4], numbers[5]))
    return [0]


def answer_para(work, numbers):
    words = words_told(numbers[1:])
    if not words_fit(words):
        return [OUT_OF_BOUNDS]
    if not marks_are_new(work.book, words):
        return [MARK_TWICE]
    if not words_have_room(work.book, words):
        return [TOO_MANY_WORDS]
    add_paragraph(work.book, numbers[0], words)
    return [work.book.word_count]


def answer_bind(work, numbers):
    rows = numbers[0]
    columns = numbers[1]
    steps = numbers[3:-2]
    sheet_count = numbers[-2]
    within = numbers[-1]
    # The sheet is looked at first: one that is let in is small enough to be folded.
    if not sheet_fits(rows, columns) or not sheet_count_fits(sheet_count):
        return [OUT_OF_BOUNDS]
    pile = pile_of(rows, columns, steps)
    if pile is None:
        return [OUT_OF_BOUNDS]
    if within == 1 and not can_lie_within(steps):
        return [NO_LAST_FOLD]
    work.binding = Binding(rows, columns, pile, sheet_count, within)
    return [gathering_pages(work.binding)]


def answer_settles(printed, numbers):
    return [pages_of_book(printed)] + list(printed.setting)


def answer_sheets(printed, numbers):
    gatherings = gatherings_of_book(printed)
    return [gatherings, gatherings * printed.binding.sheet_count, blank_pages(printed)]


def answer_side(printed, numbers):
    if not has_side(printed, numbers[0], numbers[1], numbers[2]):
        return [NOT_THERE]
    return [0] + side_told(printed, numbers[0], numbers[1], numbers[2])


def answer_find(printed, numbers):
    if not has_word(printed, numbers[0]):
        return [NOT_THERE]
    return [0] + word_found(printed, numbers[0])


def answer_leaf(printed, numbers):
    if not has_leaf(printed, numbers[0], numbers[1]):
        return [NOT_THERE]
    return [0] + leaf_told(printed, numbers[0], numbers[1])


def answer_refs(printed, numbers):
    return references_told(printed)


# By the calls' numbers: those that change the book or its sheets, and those that ask how it is printed.
CHANGING = {0: answer_begins, 1: answer_para, 3: answer_bind}
ASKING = {2: answer_settles, 4: answer_sheets, 5: answer_side, 6: answer_find, 7: answer_leaf, 8: answer_refs}


def answer_to(work, call, numbers):
    if call in CHANGING:
        return CHANGING[call](work, numbers)
    setting = settled(work.book)
    if setting is None:
        return [UNSETTLED]
    return ASKING[call](Printed(work.book, setting, work.binding), numbers)


def answers(calls):
    work = Work()
    given = []
    at = 0
    while at < len(calls):
        numbers_end = at + 2 + calls[at + 1]
        answer = answer_to(work, calls[at], calls[at + 2:numbers_end])
        given.append(len(answer))
        given.extend(answer)
        # Behind the numbers stands how many lists there are, and no call is handed one.
        at = numbers_end + 1
    return given
