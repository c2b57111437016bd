import unittest

from boundbook.setting import digits_length, how_far_length, reference_length, roman_length
from boundbook.book import Frame
from tests.calls import DIGITS, HOW_FAR, ROMAN
from tests.calls import ask, begins, digits, how_far, last, para, plain, roman, settles, sheets

ROMAN_SIGNS = ((1000, "m"), (900, "cm"), (500, "d"), (400, "cd"), (100, "c"), (90, "xc"),
               (50, "l"), (40, "xl"), (10, "x"), (9, "ix"), (5, "v"), (4, "iv"), (1, "i"))


def roman_numeral(number):
    signs = ""
    for value, sign in ROMAN_SIGNS:
        while number >= value:
            signs += sign
            number -= value
    return signs


def pages(frame, *calls):
    """Each word's page; with high 1 a word's page tells its line."""
    return last(frame, *calls, settles())[1:]


class TestWithoutWords(unittest.TestCase):
    def test_no_pages(self):
        self.assertEqual(ask(settles()), [[0]])
        self.assertEqual(ask(begins(first=77), settles()), [[0], [0]])


class TestLines(unittest.TestCase):
    def test_room_behind_one_blank(self):
        self.assertEqual(pages(begins(5, 1), para([plain(2), plain(2)])), [1, 1])
        self.assertEqual(pages(begins(5, 1), para([plain(2), plain(3)])), [1, 2])
        self.assertEqual(pages(begins(5, 1), para([plain(1), plain(1), plain(1)])), [1, 1, 1])
        self.assertEqual(pages(begins(4, 1), para([plain(1), plain(1), plain(1)])), [1, 1, 2])

    def test_a_line_is_not_come_back_to(self):
        self.assertEqual(pages(begins(5, 1), para([plain(2), plain(3), plain(1), plain(1)])), [1, 2, 2, 3])

    def test_a_word_that_fills_its_line(self):
        self.assertEqual(pages(begins(5, 1), para([plain(5), plain(1)])), [1, 2])
        self.assertEqual(pages(begins(1, 1), para([plain(1), plain(1)])), [1, 2])

    def test_a_word_that_is_too_long_stands_alone(self):
        self.assertEqual(pages(begins(5, 1), para([plain(1), plain(6), plain(1)])), [1, 2, 3])
        self.assertEqual(pages(begins(5, 1), para([plain(200), plain(1), plain(1)])), [1, 2, 2])
        self.assertEqual(pages(begins(1, 1), para([plain(9)]), para([plain(9), plain(9)])), [1, 2, 3])

    def test_a_paragraph_begins_a_line(self):
        self.assertEqual(pages(begins(50, 1), para([plain()]), para([plain(), plain()]), para([plain()])), [1, 2, 2, 3])

    def test_a_references_length_is_set_too(self):
        book = (para([plain(3, 1), digits(1)]),)
        self.assertEqual(pages(begins(5, 1, 9), *book), [9, 9])
        self.assertEqual(pages(begins(5, 1, 10), *book), [10, 11])


class TestPages(unittest.TestCase):
    def test_line_by_high(self):
        words = para([plain()] * 7)
        self.assertEqual(last(begins(1, 3), words, settles()), [3, 1, 1, 1, 2, 2, 2, 3])
        self.assertEqual(last(begins(1, 3, 3000), words, settles()), [3, 3000, 3000, 3000, 3001, 3001, 3001, 3002])

    def test_a_book_that_fills_its_pages(self):
        self.assertEqual(last(begins(1, 3), para([plain()] * 6), settles()), [2, 1, 1, 1, 2, 2, 2])

    def test_as_many_pages_as_there_may_be(self):
        given = last(begins(1, 1, 3000), para([plain()] * 200), settles())
        self.assertEqual(given, [200] + list(range(3000, 3200)))


class TestParagraphsThatBeginAPage(unittest.TestCase):
    def test_the_first_one_stands_in_line_0(self):
        self.assertEqual(pages(begins(9, 3), para([plain()], 1)), [1])

    def test_behind_a_page_that_is_begun(self):
        self.assertEqual(pages(begins(9, 3), para([plain()]), para([plain()], 1), para([plain()])), [1, 2, 2])
        self.assertEqual(pages(begins(1, 3), para([plain()] * 2), para([plain()], 1)), [1, 1, 2])

    def test_behind_a_full_page_no_page_is_left_out(self):
        self.assertEqual(pages(begins(1, 3), para([plain()] * 3), para([plain()], 1)), [1, 1, 1, 2])
        self.assertEqual(pages(begins(1, 3), para([plain()] * 4), para([plain()], 1)), [1, 1, 1, 2, 3])

    def test_it_begins_in_the_first_line_there(self):
        self.assertEqual(pages(begins(1, 3), para([plain()]), para([plain()] * 4, 1)), [1, 2, 2, 2, 3])

    def test_one_behind_another(self):
        self.assertEqual(pages(begins(9, 100), *[para([plain()], 1) for k in range(4)]), [1, 2, 3, 4])
        self.assertEqual(pages(begins(9, 1), *[para([plain()], 1) for k in range(4)]), [1, 2, 3, 4])


class TestLengths(unittest.TestCase):
    """A reference's length, found out by what still fits behind it in its line."""

    wide = 60

    def check(self, length, book):
        """book(rest) makes the calls; the line holds the reference and a plain word of length rest."""
        reference, word = book(self.wide - 1 - length)
        self.assertEqual(word, reference)
        reference, word = book(self.wide - length)
        self.assertEqual(word, reference + 1)

    def mark_before(self, reference, first, here=50, ahead=50, before=50):
        """The mark stands on the first page, the reference on the page behind it."""
        frame = begins(self.wide, 1, first, here, ahead, before)

        def book(rest):
            return pages(frame, para([plain(1, 1)]), para([reference(1), plain(rest)]))[1:]
        return book

    def test_digits(self):
        for first in (1, 9, 10, 99, 100, 999, 1000, 3000):
            self.check(len(str(first)), self.mark_before(digits, first))

    def test_roman_numerals(self):
        for first in range(1, 3001):
            self.check(len(roman_numeral(first)), self.mark_before(roman, first))

    def test_roman_numerals_behind_the_last_first_page(self):
        for page in range(3000, 3200):
            self.assertEqual(roman_length(page), len(roman_numeral(page)))

    def test_how_far_back(self):
        for first, before, length in ((1, 7, 8), (9, 0, 1), (10, 0, 2), (999, 30, 33), (1000, 50, 54)):
            self.check(length, self.mark_before(how_far, first, 3, 5, before))

    def test_how_far_here(self):
        frame = begins(self.wide, 2, 12, 23, 29, 31)

        def book(rest):
            return pages(frame, para([plain(1, 1)]), para([how_far(1), plain(rest)]))[1:]
        self.check(23, book)

    def test_how_far_to_itself(self):
        frame = begins(self.wide, 1, 12, 23, 29, 31)

        def book(rest):
            return pages(frame, para([how_far(1, 1), plain(rest)]))
        self.check(23, book)

    def test_how_far_to_the_next_page(self):
        frame = begins(self.wide, 2, 12, 23, 29, 31)

        def book(rest):
            return pages(frame, para([plain()]), para([how_far(1), plain(rest)]), para([plain(1, 1)]))[1:3]
        reference, word = book(30)
        self.assertEqual((reference, word), (12, 12))
        reference, word = book(31)
        self.assertEqual((reference, word), (12, 13))

    def test_how_far_beyond_the_next_page(self):
        frame = begins(self.wide, 1, 8, 23, 29, 31)
        behind = [para([plain()]), para([plain(1, 1)])]

        def book(rest):
            return pages(frame, para([how_far(1), plain(rest)]), *behind)[:2]
        self.check(33, book)

    def test_no_such_mark(self):
        for reference in (digits, roman, how_far):
            frame = begins(self.wide, 1, 888, 50, 50, 50)

            def book(rest):
                return pages(frame, para([plain(1, 2)]), para([reference(1), plain(rest)]))[1:]
            self.check(1, book)

    def test_a_page_that_is_not_known(self):
        frame = Frame(60, 30, 1, 20, 21, 22)
        for kind in (DIGITS, ROMAN, HOW_FAR):
            self.assertEqual(reference_length(frame, kind, 0, 0), 1)
            self.assertEqual(reference_length(frame, kind, 888, 0), 1)
        self.assertEqual(reference_length(frame, DIGITS, 0, 888), 3)
        self.assertEqual(reference_length(frame, ROMAN, 0, 888), 12)
        self.assertEqual(reference_length(frame, HOW_FAR, 0, 888), 1)
        self.assertEqual(how_far_length(frame, 0, 1), 1)
        self.assertEqual(digits_length(888), 3)

    def test_a_plain_words_length_is_as_told(self):
        self.assertEqual(pages(begins(200, 1), para([plain(100), plain(99)])), [1, 1])
        self.assertEqual(pages(begins(200, 1), para([plain(100), plain(100)])), [1, 2])


class TestPasses(unittest.TestCase):
    def test_a_mark_moved_by_its_own_reference(self):
        # At first 1 + 1 + 2 signs; then mark's page 10 makes it 2 + 1 + 2, and the mark goes on to page 11.
        self.assertEqual(pages(begins(4, 1, 10), para([digits(1), plain(2, 1)])), [10, 11])

    def test_of_two_true_settings_the_one_that_passes_come_to(self):
        # With both words on page 1 the reference is 3 long, else 8: each of the two settings is true.
        frame = begins(10, 1, 1, 3, 8, 0)
        self.assertEqual(pages(frame, para([how_far(1), plain(6, 1)])), [1, 1])

    def test_a_chain_of_references(self):
        # Each mark comes to page 10 only when the reference before it has grown.
        book = [para([plain(3, 1)]), para([digits(1), plain(2, 2)]), para([digits(2), plain(1, 3), digits(3)])]
        self.assertEqual(pages(begins(4, 1, 9), *book), [9, 10, 10, 11, 11, 12])

    def test_a_book_that_does_not_settle(self):
        frame = begins(10, 1, 1, 9, 1, 5)
        book = para([how_far(1), plain(1, 1)])
        self.assertEqual(ask(frame, book, settles(), sheets()), [[0], [2], [-7], [-7]])

    def test_it_does_not_settle_through_roman_numerals(self):
        # On page 8 the mark's numeral is viii and pushes it to page 9; there it is ix and lets it back.
        book = para([roman(1), plain(3, 1)])
        self.assertEqual(last(begins(6, 1, 8), book, settles()), [-7])
        self.assertEqual(last(begins(8, 1, 8), book, settles()), [1, 8, 8])
        self.assertEqual(last(begins(5, 1, 8), book, settles()), [2, 8, 9])

    def test_a_refusal_changes_nothing(self):
        frame = begins(10, 1, 1, 9, 1, 5)
        given = ask(frame, para([how_far(1), plain(1, 1)]), settles(), para([plain()]), settles(), begins(), settles())
        self.assertEqual(given[2:], [[-7], [3], [-7], [0], [0]])

    def test_asked_again_it_answers_the_same(self):
        frame = begins(4, 1, 10)
        given = ask(frame, para([digits(1), plain(2, 1)]), settles(), settles(), para([digits(1)]), settles())
        self.assertEqual(given[2:], [[2, 10, 11], [2, 10, 11], [3], [3, 10, 11, 12]])


if __name__ == "__main__":
    unittest.main()
