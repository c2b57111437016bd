import unittest

from tests.calls import GREATEST, ask, begins, bind, digits, last, leaf, para, plain
from tests.test_side import UNSETTLED, book_of


def leaves(calls, gathering, count):
    """What each leaf of a gathering answers behind the 0."""
    told = []
    for answer in ask(*calls, *[leaf(gathering, i) for i in range(count)])[len(calls):]:
        assert answer[0] == 0, answer
        told.append(answer[1:])
    return told


class TestPagesAndWords(unittest.TestCase):
    def test_one_word_on_each_page(self):
        self.assertEqual(leaves(book_of(8, 20), 0, 2), [[20, 1, 0, 21, 1, 1], [22, 1, 2, 23, 1, 3]])
        self.assertEqual(leaves(book_of(8, 20), 1, 2), [[24, 1, 4, 25, 1, 5], [26, 1, 6, 27, 1, 7]])

    def test_several_words_on_a_page(self):
        calls = [begins(3, 2), para([plain()] * 5), para([plain()], 1), para([plain(), plain()])]
        self.assertEqual(leaves(calls, 0, 2), [[1, 4, 0, 1, 2, 3, 2, 1, 4], [3, 3, 5, 6, 7, 0, 0]])

    def test_pages_are_those_of_the_books_setting(self):
        # In the first pass the reference is one sign long and leaves the mark on page 10.
        calls = [begins(4, 1, 10), para([digits(1), plain(2, 1)])]
        self.assertEqual(leaves(calls, 0, 1), [[10, 1, 0, 11, 1, 1]])

    def test_all_words_on_one_page(self):
        given = last(begins(200, 100), para([plain()] * 200), leaf(0, 0))
        self.assertEqual(given, [0, 1, 200] + list(range(200)) + [0, 0])


class TestBlankPages(unittest.TestCase):
    def test_behind_the_last_page(self):
        self.assertEqual(leaves(book_of(1), 0, 2), [[1, 1, 0, 0, 0], [0, 0, 0, 0]])
        self.assertEqual(leaves(book_of(2), 0, 2), [[1, 1, 0, 2, 1, 1], [0, 0, 0, 0]])
        self.assertEqual(leaves(book_of(7), 1, 2), [[5, 1, 4, 6, 1, 5], [7, 1, 6, 0, 0]])

    def test_several_sheets(self):
        for within in (0, 1):
            told = leaves(book_of(5) + [bind(1, 2, [0], 3, within)], 0, 6)
            self.assertEqual(told[:3], [[1, 1, 0, 2, 1, 1], [3, 1, 2, 4, 1, 3], [5, 1, 4, 0, 0]])
            self.assertEqual(told[3:], [[0, 0, 0, 0]] * 3)


class TestHoweverItIsBound(unittest.TestCase):
    def test_turned_over_leaf_by_leaf_pages_stand_in_order(self):
        bindings = [(bind(1, 1, []), 1), (bind(1, 1, [], 3), 3), (bind(1, 2, [4], 2, 1), 4), (bind(1, 2, [9], 2), 4),
                    (bind(2, 1, [3], 4, 1), 8), (bind(2, 2, [6, 8], 2), 8), (bind(2, 4, [11, 1, 5], 1, 1), 8)]
        for bound, size in bindings:
            calls = book_of(16) + [bound]
            pages = []
            for gathering in range(16 // (2 * size) + (16 % (2 * size) > 0)):
                for told in leaves(calls, gathering, size):
                    pages.append(told)
            expected = [[2 * k + 1, 1, 2 * k, 2 * k + 2, 1, 2 * k + 1] for k in range(8)]
            self.assertEqual(pages[:8], expected, bound)
            self.assertEqual(pages[8:], [[0, 0, 0, 0]] * len(pages[8:]), bound)


class TestRefusals(unittest.TestCase):
    def test_no_such_gathering_or_leaf(self):
        calls = book_of(9) + [bind(1, 2, [0], 2)]
        self.assertEqual(last(*calls, leaf(0, 3)), [0, 7, 1, 6, 8, 1, 7])
        self.assertEqual(last(*calls, leaf(1, 3)), [0, 0, 0, 0, 0])
        self.assertEqual(ask(*calls, leaf(2, 0), leaf(0, 4), leaf(1, 4), leaf(2, 4))[3:], [[-6]] * 4)
        self.assertEqual(ask(*calls, leaf(GREATEST, 0), leaf(0, GREATEST))[3:], [[-6], [-6]])

    def test_one_leaf(self):
        self.assertEqual(ask(*book_of(1), bind(1, 1, []), leaf(0, 0), leaf(0, 1), leaf(1, 0))[3:],
                         [[0, 1, 1, 0, 0, 0], [-6], [-6]])

    def test_the_largest_gathering(self):
        calls = book_of(3) + [bind(4, 8, [0, 0, 0, 2, 2], 20)]
        self.assertEqual(ask(*calls, leaf(0, 639), leaf(0, 640))[3:], [[0, 0, 0, 0, 0], [-6]])

    def test_a_gathering_more_with_a_page_more(self):
        self.assertEqual(last(*book_of(4), leaf(1, 0)), [-6])
        self.assertEqual(last(*book_of(5), leaf(1, 0)), [0, 5, 1, 4, 0, 0])

    def test_a_book_without_words(self):
        self.assertEqual(ask(leaf(0, 0), leaf(0, 1)), [[-6], [-6]])
        self.assertEqual(last(*book_of(3), begins(), leaf(0, 0)), [-6])

    def test_a_book_that_does_not_settle(self):
        self.assertEqual(ask(*UNSETTLED, leaf(0, 0), leaf(9, 0), leaf(0, 9))[2:], [[-7]] * 3)


if __name__ == "__main__":
    unittest.main()
