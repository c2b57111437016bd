"""The calls on one book, handed in and answered as whole numbers one behind another."""

from boundbook.binding import Binding, can_lie_within, first_binding, gathering_count, gathering_pages
from boundbook.binding import sheet_count_fits, sheet_fits
from boundbook.book import Book, Frame, add_paragraph, first_frame, frame_fits, marks_are_new
from boundbook.book import words_fit, words_have_room, words_told
from boundbook.plan import pile_of
from boundbook.setting import page_count, settled

OUT_OF_BOUNDS = -1
MARK_TWICE = -3
NO_LAST_FOLD = -4
TOO_MANY_WORDS = -5
UNSETTLED = -7


class Work:
    def __init__(self):
        self.book = Book(first_frame())
        self.binding = first_binding()


def answer_begins(work, numbers):
    if not frame_fits(numbers):
        return [OUT_OF_BOUNDS]
    work.book = Book(Frame(numbers[0], numbers[1], numbers[2], numbers[3], numbers[4], numbers[5]))
    return [0]


def answer_para(work, numbers):
    words = words_told(numbers[1:])
    if not words_fit(words):
        return [OUT_OF_BOUNDS]
    if not marks_are_new(work.book, words):
        return [MARK_TWICE]
    if not words_have_room(work.book, words):
        return [TOO_MANY_WORDS]
    add_paragraph(work.book, numbers[0], words)
    return [work.book.word_count]


def answer_settles(work, numbers):
    setting = settled(work.book)
    if setting is None:
        return [UNSETTLED]
    return [page_count(work.book, setting)] + list(setting)


def answer_bind(work, numbers):
    rows = numbers[0]
    columns = numbers[1]
    steps = numbers[3:-2]
    sheet_count = numbers[-2]
    within = numbers[-1]
    # The sheet is looked at first: one that is let in is small enough to be folded.
    if not sheet_fits(rows, columns) or not sheet_count_fits(sheet_count):
        return [OUT_OF_BOUNDS]
    pile = pile_of(rows, columns, steps)
    if pile is None:
        return [OUT_OF_BOUNDS]
    if within == 1 and not can_lie_within(steps):
        return [NO_LAST_FOLD]
    work.binding = Binding(rows, columns, pile, sheet_count, within)
    return [gathering_pages(work.binding)]


def answer_sheets(work, numbers):
    setting = settled(work.book)
    if setting is None:
        return [UNSETTLED]
    pages = page_count(work.book, setting)
    gatherings = gathering_count(work.binding, pages)
    blank = gatherings * gathering_pages(work.binding) - pages
    return [gatherings, gatherings * work.binding.sheet_count, blank]


# A call's number is its place here.
CALLS = (answer_begins, answer_para, answer_settles, answer_bind, answer_sheets)


def answer_to(work, call, numbers):
    if call >= len(CALLS):
        raise NotImplementedError("this call isn't built yet")
    return CALLS[call](work, numbers)


def answers(calls):
    work = Work()
    given = []
    at = 0
    while at < len(calls):
        numbers_end = at + 2 + calls[at + 1]
        answer = answer_to(work, calls[at], calls[at + 2:numbers_end])
        given.append(len(answer))
        given.extend(answer)
        # Behind the numbers stands how many lists there are, and no call is handed one.
        at = numbers_end + 1
    return given
