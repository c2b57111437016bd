"""Books that take nearly, just and more than as many passes as a book may take to settle.

Each of 20 marks has two pages of its own, and stands on the first or on the second of them, as the references in its
line before it are short or long. A reference in Roman numerals to such a mark is itself short or long, as the mark
stands on one or the other page. So marks that tell of one another round in a ring go on changing from pass to pass,
and rings of 3, 4, 5 and 7 marks come only after hundreds of passes to a state of all of them that is looked for.
One mark looks for it: when those that are to be long are long, it makes its own references long for good, and these
move all the other marks to their second pages, where they stay.
"""

import unittest
from unittest import mock

from boundbook import setting
from tests.calls import ask, begins, digits, find, last, leaf, para, plain, refs, roman, settles, sheets, side
from tests.test_model import Written
from tests.test_settles import roman_numeral

WIDE = 200
FRAME = [WIDE, 2, 1, 1, 1, 1]
MARKS = range(1, 21)
WATCHER = 1
ONE_WAY = ((14, 10, 15), (11, 4, 7, 19), (3, 8, 2, 6, 18), (20, 12, 5, 13, 9, 17, 16))
OTHER_WAY = ((13, 5, 9), (2, 19, 8, 10), (11, 3, 6, 17, 15), (16, 14, 20, 7, 4, 12, 18))


def lengths(mark):
    """Of a reference to the mark, on the first and on the second of its pages."""
    return [len(roman_numeral(2 * mark - 1)), len(roman_numeral(2 * mark))]


def short(mark):
    return min(lengths(mark))


def long(mark):
    return max(lengths(mark))


def marks_before(rings):
    return {mark: ring[k - 1] for ring in rings for k, mark in enumerate(ring)}


def long_marks(before, count):
    """To which marks references are long behind so many passes, if the watcher finds nothing."""
    moved = {mark: 0 for mark in MARKS}
    for k in range(count):
        is_long = [mark for mark in before if lengths(mark)[moved[mark]] == long(mark)]
        moved = {mark: int(before.get(mark) in is_long) for mark in MARKS}
    return [mark for mark in before if lengths(mark)[moved[mark]] == long(mark)]


def page_pair(mark, references, room):
    """Two pages with a mark; its word goes to the second one if the references before it need more than room."""
    line = [roman(reference) for reference in references] + [plain(WIDE - room, mark)]
    return (1, [plain(WIDE)] + line + [plain(WIDE)])


def watcher_pages(watched):
    again = sum(long(mark) - short(mark) for mark in watched)
    room = sum(long(mark) + 1 for mark in watched) + again * (short(WATCHER) + 1) - 1
    return page_pair(WATCHER, watched + [WATCHER] * again, room)


def ring_pages(mark, before):
    return page_pair(mark, [before, WATCHER], short(before) + 1 + short(WATCHER) + 1)


def book_that_watches(rings, count):
    before = marks_before(rings)
    watcher = watcher_pages(long_marks(before, count))
    return [watcher if mark == WATCHER else ring_pages(mark, before[mark]) for mark in MARKS]


ASKING = (settles(), sheets(), side(0, 0, 0), find(0), leaf(0, 0), refs())


def answers_for(paragraphs):
    """What each call answers that asks about the book's setting."""
    calls = [para(words, begins_page) for begins_page, words in paragraphs]
    return ask(begins(*FRAME), *calls, *ASKING)[-len(ASKING):]


def passes_needed(paragraphs):
    """How many passes it takes until one gives the setting that it was made of once more."""
    book = Written(FRAME, paragraphs)
    pages = [0] * len(book.words)
    passes = 1
    while book.one_pass(pages) != pages:
        pages = book.one_pass(pages)
        passes += 1
    return passes


class TestHowManyPasses(unittest.TestCase):
    def test_within_400_passes(self):
        for rings, count, passes in ((OTHER_WAY, 393, 397), (ONE_WAY, 396, 400)):
            paragraphs = book_that_watches(rings, count)
            self.assertEqual(passes_needed(paragraphs), passes)
            given = answers_for(paragraphs)
            expected = Written(FRAME, paragraphs).answer()
            self.assertEqual(expected[0], 40)
            self.assertEqual(given[:2], [expected, [10, 10, 0]])
            self.assertEqual([answer[0] for answer in given[2:5]], [0, 0, 0])

    def test_behind_400_passes(self):
        for count, passes in ((397, 401), (398, 402)):
            paragraphs = book_that_watches(OTHER_WAY, count)
            self.assertEqual(passes_needed(paragraphs), passes)
            self.assertEqual(answers_for(paragraphs), [[-7]] * len(ASKING))

    def test_the_pass_that_shows_a_setting_to_stay_is_counted(self):
        calls = [begins(4, 1, 10), para([digits(1), plain(2, 1)]), settles()]
        with mock.patch.object(setting, "MOST_PASSES", 3):
            self.assertEqual(last(*calls), [2, 10, 11])
        with mock.patch.object(setting, "MOST_PASSES", 2):
            self.assertEqual(last(*calls), [-7])


if __name__ == "__main__":
    unittest.main()
