import unittest

from tests.calls import ask, begins, bind, how_far, last, para, plain, sheets


def book_of(pages, first=1):
    return [begins(1, 1, first), para([plain()] * pages)]


class TestBeforeAnyBind(unittest.TestCase):
    def test_gatherings_of_one_sheet_with_four_pages(self):
        for pages in range(1, 14):
            gatherings = (pages + 3) // 4
            self.assertEqual(last(*book_of(pages), sheets()), [gatherings, gatherings, 4 * gatherings - pages])

    def test_edges(self):
        self.assertEqual(last(*book_of(4), sheets()), [1, 1, 0])
        self.assertEqual(last(*book_of(5), sheets()), [2, 2, 3])

    def test_the_first_pages_number_does_not_count(self):
        self.assertEqual(last(*book_of(5, 3000), sheets()), [2, 2, 3])


class TestWithoutWords(unittest.TestCase):
    def test_no_gathering(self):
        self.assertEqual(ask(sheets()), [[0, 0, 0]])
        self.assertEqual(ask(bind(2, 2, [0, 2], 5), sheets()), [[40], [0, 0, 0]])
        self.assertEqual(ask(begins(first=9), sheets()), [[0], [0, 0, 0]])


class TestBoundOtherwise(unittest.TestCase):
    def test_several_sheets_in_a_gathering(self):
        for within in (0, 1):
            bound = bind(2, 2, [0, 2], 3, within)
            self.assertEqual(last(*book_of(1), bound, sheets()), [1, 3, 23])
            self.assertEqual(last(*book_of(24), bound, sheets()), [1, 3, 0])
            self.assertEqual(last(*book_of(25), bound, sheets()), [2, 6, 23])
            self.assertEqual(last(*book_of(200), bound, sheets()), [9, 27, 16])

    def test_leaves_without_a_step(self):
        self.assertEqual(last(*book_of(7), bind(1, 1, []), sheets()), [4, 4, 1])
        self.assertEqual(last(*book_of(7), bind(1, 1, [], 20), sheets()), [1, 20, 33])

    def test_the_largest_gathering(self):
        self.assertEqual(last(*book_of(200), bind(8, 4, [0, 0, 2, 2, 2], 20), sheets()), [1, 20, 1080])

    def test_more_words(self):
        given = ask(*book_of(4), sheets(), para([plain()]), sheets())
        self.assertEqual(given[2:], [[1, 1, 0], [5], [2, 2, 3]])


class TestABookThatDoesNotSettle(unittest.TestCase):
    def test_refused(self):
        book = [begins(10, 1, 1, 9, 1, 5), para([how_far(1), plain(1, 1)])]
        self.assertEqual(ask(*book, sheets(), bind(1, 1, []), sheets(), begins(), sheets())[2:],
                         [[-7], [2], [-7], [0], [0, 0, 0]])


if __name__ == "__main__":
    unittest.main()
