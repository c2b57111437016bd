import unittest

from tests.calls import ask, begins, bind, digits, how_far, last, para, plain, refs, roman
from tests.test_side import UNSETTLED, book_of


class TestReferences(unittest.TestCase):
    def test_none(self):
        self.assertEqual(ask(refs()), [[0]])
        self.assertEqual(last(*book_of(5), refs()), [0])
        self.assertEqual(last(para([plain(1, 1), plain(1, 2)]), refs()), [0])

    def test_each_kind_in_the_words_order(self):
        book = [begins(1, 1, 7), para([how_far(2), plain(1, 1)]), para([roman(1, 2), digits(2), plain()])]
        self.assertEqual(last(*book, refs()), [3, 0, 9, 1, 2, 8, 1, 3, 9, 1])

    def test_no_such_mark(self):
        self.assertEqual(last(para([digits(1), roman(2), how_far(20), plain(1, 3)]), refs()),
                         [3, 0, 0, 0, 1, 0, 0, 2, 0, 0])

    def test_marks_with_and_without_a_word(self):
        self.assertEqual(last(para([digits(4), plain(1, 5), digits(5)]), refs()), [2, 0, 0, 0, 2, 1, 1])

    def test_a_mark_that_comes_later(self):
        given = ask(para([digits(1)]), refs(), para([plain(1, 1)], 1), refs(), begins(), refs())
        self.assertEqual(given, [[1], [1, 0, 0, 0], [2], [1, 0, 2, 1], [0], [0]])

    def test_a_reference_to_itself(self):
        self.assertEqual(last(begins(1, 1, 30), para([plain(), how_far(6, 6)]), refs()), [1, 1, 31, 1])

    def test_pages_are_those_of_the_books_setting(self):
        # In the first pass the reference is one sign long and leaves the mark on page 10.
        self.assertEqual(last(begins(4, 1, 10), para([digits(1), plain(2, 1)]), refs()), [1, 0, 11, 1])

    def test_as_many_as_there_may_be(self):
        expected = [200] + [number for word in range(200) for number in (word, 0, 0)]
        self.assertEqual(last(para([digits(1)] * 200), refs()), expected)


class TestGatherings(unittest.TestCase):
    def gatherings(self, first, bound):
        """The gathering of a mark on each of nine pages."""
        book = [begins(1, 1, first), para([plain(1, page + 1) for page in range(9)])]
        told = last(*book, para([digits(mark) for mark in range(1, 10)]), *bound, refs())
        self.assertEqual(told[0], 9)
        self.assertEqual(told[1::3], list(range(9, 18)))
        self.assertEqual(told[2::3], [first + page for page in range(9)])
        return told[3::3]

    def test_from_1_on(self):
        self.assertEqual(self.gatherings(1, []), [1, 1, 1, 1, 2, 2, 2, 2, 3])
        self.assertEqual(self.gatherings(2998, []), [1, 1, 1, 1, 2, 2, 2, 2, 3])

    def test_as_sheets_are_bound(self):
        self.assertEqual(self.gatherings(1, [bind(1, 1, [])]), [1, 1, 2, 2, 3, 3, 4, 4, 5])
        self.assertEqual(self.gatherings(1, [bind(1, 1, [], 4)]), [1] * 8 + [2])
        self.assertEqual(self.gatherings(1, [bind(2, 1, [3], 2, 1)]), [1] * 8 + [2])
        self.assertEqual(self.gatherings(5, [bind(8, 4, [0, 0, 2, 2, 2], 20)]), [1] * 9)

    def test_the_marks_gathering_not_the_references(self):
        book = [begins(1, 1), para([digits(1)]), para([plain()] * 7), para([plain(1, 1), digits(2), plain(1, 2)])]
        self.assertEqual(last(*book, refs()), [2, 0, 9, 3, 9, 11, 3])


class TestRefusals(unittest.TestCase):
    def test_a_book_that_does_not_settle(self):
        self.assertEqual(ask(*UNSETTLED, refs(), begins(), refs())[2:], [[-7], [0], [0]])


if __name__ == "__main__":
    unittest.main()
