"""Many books on many sheets: what the calls tell of one book fits together, and the bound book is what was written."""

import random
import unittest

from tests.calls import PLAIN, ask, begins, bind, find, leaf, para, refs, settles, sheets, side
from tests.test_model import any_frame, any_paragraphs
from tests.test_plan import pile_by_moving

MOST_CALLS = 40


def any_plan(source, rows, columns):
    steps = []
    while rows * columns > 1:
        step = source.randrange(12)
        if step % 4 < 2 and columns > 1:
            columns //= 2
            steps.append(step)
        if step % 4 >= 2 and rows > 1:
            rows //= 2
            steps.append(step)
    return steps


def any_sheets(source, most_places=32, most_sheets=20):
    """Rows, columns, steps, sheets in a gathering, within one another, as bind takes them."""
    rows, columns = source.choice((1, 2, 4, 8)), source.choice((1, 2, 4, 8))
    while rows * columns > most_places:
        rows, columns = source.choice((1, 2, 4, 8)), source.choice((1, 2, 4, 8))
    steps = any_plan(source, rows, columns)
    within = int(steps != [] and steps[-1] < 8 and source.random() < 0.6)
    return rows, columns, steps, source.randint(1, most_sheets), within


def put_together(piles, within):
    """A gathering's leaves from its sheets' piles, put together by hand."""
    if not within:
        return [one for pile in piles for one in pile]
    if len(piles) == 1:
        return piles[0]
    middle = len(piles[0]) // 2
    return piles[0][:middle] + put_together(piles[1:], within) + piles[0][middle:]


class Told:
    """All that can be asked of one book, asked with no more calls in a line than there may be."""

    def __init__(self, frame, paragraphs, bound):
        self.rows, self.columns, self.steps, self.sheet_count, self.within = bound
        self.first = frame[2]
        self.words = [word for begins_page, words in paragraphs for word in words]
        self.book = [begins(*frame)] + [para(words, begins_page) for begins_page, words in paragraphs] + [bind(*bound)]
        answers = ask(*self.book, settles(), sheets(), refs())[len(self.book):]
        self.settles, self.sheets, self.refs = answers

    def ask_each(self, calls):
        answers = []
        room = MOST_CALLS - len(self.book)
        for at in range(0, len(calls), room):
            answers.extend(ask(*self.book, *calls[at:at + room])[len(self.book):])
        return answers

    def ask_all(self):
        gatherings = range(self.sheets[0])
        self.leaf_count = self.rows * self.columns * self.sheet_count
        self.finds = self.ask_each([find(word) for word in range(len(self.words))])
        self.leaves = self.ask_each([leaf(g, i) for g in gatherings for i in range(self.leaf_count)])
        where = [(g, s, b) for g in gatherings for s in range(self.sheet_count) for b in (0, 1)]
        self.sides = dict(zip(where, self.ask_each([side(*one) for one in where])))

    def printed(self, gathering, sheet, row, column, back):
        """The page's number and whether its head is below, at a place told as the sheet lies with its front up."""
        answer = self.sides[gathering, sheet, back]
        seen = self.columns - 1 - column if back else column
        at = 1 + 2 * (row * self.columns + seen)
        return answer[at], answer[at + 1]

    def pages_and_words(self):
        """Leaf by leaf, each page's number and its words."""
        pages = []
        for answer in self.leaves:
            at = 1
            while at < len(answer):
                end = at + 2 + answer[at + 1]
                pages.append((answer[at], answer[at + 2:end]))
                at = end
        return pages

    def folded_pile(self, gathering, sheet):
        """What the sheet's two sides tell is folded and cut: each leaf's two pages, with where their heads come to."""
        pile = []
        for row, column, back_up, turned in pile_by_moving(self.rows, self.columns, self.steps):
            pages = []
            for back in (back_up, 1 - back_up):
                page, head_below = self.printed(gathering, sheet, row, column, back)
                pages.append((page, head_below ^ turned))
            pile.append(pages)
        return pile

    def folded_book(self):
        pages = []
        for gathering in range(self.sheets[0]):
            piles = [self.folded_pile(gathering, sheet) for sheet in range(self.sheet_count)]
            for both in put_together(piles, self.within):
                pages.extend(both)
        return pages


class TestTheBoundBook(unittest.TestCase):
    def check_leaves(self, told):
        """Each word once, in order, on the page that settles tells; pages in order, then blank ones."""
        pages = told.pages_and_words()
        self.assertEqual(len(pages), 2 * told.leaf_count * told.sheets[0])
        numbers = [told.first + k for k in range(told.settles[0])]
        self.assertEqual([page for page, words in pages], numbers + [0] * told.sheets[2])
        self.assertEqual([word for page, words in pages for word in words], list(range(len(told.words))))
        self.assertEqual([page for page, words in pages for word in words], told.settles[1:])

    def check_folded(self, told):
        """Printed as side tells, then folded, cut and put together, pages stand in order with their heads up."""
        numbers = [page for page, words in told.pages_and_words()]
        self.assertEqual(told.folded_book(), [(number, 0) for number in numbers])

    def check_finds(self, told):
        """What side tells of a place is what find tells of the words of its page."""
        for word, answer in enumerate(told.finds):
            zero, page, line, gathering, sheet, row, column, back, head_below = answer
            self.assertEqual((zero, page), (0, told.settles[1 + word]))
            self.assertEqual(told.printed(gathering, sheet, row, column, back), (page, head_below))

    def check_refs(self, told):
        """Refs tells the page that settles tells of the mark's word, and the gathering in which find finds it."""
        expected = []
        for number, word in enumerate(told.words):
            if word[0] != PLAIN:
                marked = [k for k, other in enumerate(told.words) if other[2] == word[1]]
                pages = [told.settles[1 + k] for k in marked] + [0]
                gatherings = [told.finds[k][3] + 1 for k in marked] + [0]
                expected += [number, pages[0], gatherings[0]]
        self.assertEqual(told.refs, [len(expected) // 3] + expected)

    def check(self, told):
        told.ask_all()
        self.check_leaves(told)
        self.check_folded(told)
        self.check_finds(told)
        self.check_refs(told)

    def test_many_books(self):
        source = random.Random(35)
        settled = 0
        several = 0
        for k in range(400):
            bound = any_sheets(source, source.choice((1, 4, 8, 32)), source.choice((1, 2, 5)))
            told = Told(any_frame(source), any_paragraphs(source), bound)
            if told.settles == [-7]:
                self.assertEqual((told.sheets, told.refs), ([-7], [-7]))
            else:
                settled += 1
                several += told.sheets[0] > 1
                self.check(told)
        self.assertGreater(settled, 100)
        self.assertGreater(several, 50)

    def test_the_largest_sheets(self):
        source = random.Random(36)
        frame, paragraphs = [1, 1, 2990, 4, 16, 5], [(0, [(0, 1, 0)] * 200)]
        for rows, columns in ((4, 8), (8, 4)):
            for within in (0, 1):
                steps = any_plan(source, rows, columns)
                while steps[-1] >= 8:
                    steps = any_plan(source, rows, columns)
                self.check(Told(frame, paragraphs, (rows, columns, steps, 3, within)))


if __name__ == "__main__":
    unittest.main()
