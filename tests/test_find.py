import unittest

from tests.calls import GREATEST, ask, begins, bind, digits, find, last, para, plain
from tests.test_side import UNSETTLED, book_of


def printed_at(calls, words):
    """For each word gathering, sheet, row, column, front or back, and whether the head is below."""
    return [tuple(answer[3:]) for answer in ask(*calls, *[find(word) for word in words])[len(calls):]]


class TestPageAndLine(unittest.TestCase):
    def page_and_line(self, calls, words):
        return [tuple(answer[:3]) for answer in ask(*calls, *[find(word) for word in words])[len(calls):]]

    def test_lines_from_0_on_each_page(self):
        calls = [begins(3, 3, 20), para([plain()] * 11)]
        self.assertEqual(self.page_and_line(calls, range(11)),
                         [(0, 20, 0), (0, 20, 0), (0, 20, 1), (0, 20, 1), (0, 20, 2), (0, 20, 2),
                          (0, 21, 0), (0, 21, 0), (0, 21, 1), (0, 21, 1), (0, 21, 2)])

    def test_one_line_on_a_page(self):
        self.assertEqual(self.page_and_line(book_of(3, 8), range(3)), [(0, 8, 0), (0, 9, 0), (0, 10, 0)])

    def test_a_paragraph_that_begins_a_page(self):
        calls = [begins(9, 4), para([plain()]), para([plain()]), para([plain()], 1), para([plain()])]
        self.assertEqual(self.page_and_line(calls, range(4)), [(0, 1, 0), (0, 1, 1), (0, 2, 0), (0, 2, 1)])

    def test_lines_are_those_of_the_books_setting(self):
        # In the first pass the reference is one sign long and leaves the mark in line 0.
        calls = [begins(4, 9, 10), para([digits(1), plain(2, 1)]), para([plain()])]
        self.assertEqual(self.page_and_line(calls, range(3)), [(0, 10, 0), (0, 10, 1), (0, 10, 2)])

    def test_before_any_begins(self):
        calls = [para([plain(59), plain(1), plain(59)])]
        self.assertEqual(self.page_and_line(calls, range(3)), [(0, 1, 0), (0, 1, 1), (0, 1, 2)])


class TestWhereItIsPrinted(unittest.TestCase):
    def test_before_any_bind(self):
        self.assertEqual(printed_at(book_of(8), range(8)),
                         [(0, 0, 0, 0, 1, 0), (0, 0, 0, 0, 0, 0), (0, 0, 0, 1, 0, 0), (0, 0, 0, 1, 1, 0),
                          (1, 0, 0, 0, 1, 0), (1, 0, 0, 0, 0, 0), (1, 0, 0, 1, 0, 0), (1, 0, 0, 1, 1, 0)])

    def test_the_first_pages_number_does_not_count(self):
        self.assertEqual(printed_at(book_of(8, 2999), range(8)), printed_at(book_of(8), range(8)))

    def test_folded_over_under_and_cut_sideways(self):
        expected = {0: [(0, 1), (0, 0), (1, 0), (1, 1)], 1: [(1, 1), (1, 0), (0, 0), (0, 1)],
                    4: [(1, 0), (1, 1), (0, 1), (0, 0)], 5: [(0, 0), (0, 1), (1, 1), (1, 0)],
                    8: [(0, 0), (0, 1), (1, 0), (1, 1)], 9: [(1, 0), (1, 1), (0, 0), (0, 1)]}
        for step, places in expected.items():
            self.assertEqual(printed_at(book_of(4) + [bind(1, 2, [step])], range(4)),
                             [(0, 0, 0, column, back, 0) for column, back in places], step)

    def test_folded_over_under_and_cut_the_other_way(self):
        expected = {2: [(0, 1, 1), (0, 0, 1), (1, 0, 0), (1, 1, 0)], 3: [(1, 1, 1), (1, 0, 1), (0, 0, 0), (0, 1, 0)],
                    6: [(1, 0, 0), (1, 1, 0), (0, 1, 1), (0, 0, 1)], 7: [(0, 0, 0), (0, 1, 0), (1, 1, 1), (1, 0, 1)],
                    10: [(0, 0, 0), (0, 1, 0), (1, 0, 0), (1, 1, 0)], 11: [(1, 0, 0), (1, 1, 0), (0, 0, 0), (0, 1, 0)]}
        for step, places in expected.items():
            self.assertEqual(printed_at(book_of(4) + [bind(2, 1, [step])], range(4)),
                             [(0, 0, row, 0, back, head) for row, back, head in places], step)

    def test_steps_together(self):
        self.assertEqual(printed_at(book_of(8) + [bind(2, 2, [0, 2])], range(8)),
                         [(0, 0, 0, 1, 1, 1), (0, 0, 0, 1, 0, 1), (0, 0, 0, 0, 0, 1), (0, 0, 0, 0, 1, 1),
                          (0, 0, 1, 0, 1, 0), (0, 0, 1, 0, 0, 0), (0, 0, 1, 1, 0, 0), (0, 0, 1, 1, 1, 0)])

    def test_one_place_and_no_step(self):
        self.assertEqual(printed_at(book_of(5) + [bind(1, 1, [])], range(5)),
                         [(0, 0, 0, 0, 0, 0), (0, 0, 0, 0, 1, 0), (1, 0, 0, 0, 0, 0), (1, 0, 0, 0, 1, 0),
                          (2, 0, 0, 0, 0, 0)])
        self.assertEqual(printed_at(book_of(7) + [bind(1, 1, [], 3)], range(7)),
                         [(0, 0, 0, 0, 0, 0), (0, 0, 0, 0, 1, 0), (0, 1, 0, 0, 0, 0), (0, 1, 0, 0, 1, 0),
                          (0, 2, 0, 0, 0, 0), (0, 2, 0, 0, 1, 0), (1, 0, 0, 0, 0, 0)])

    def sheets_of_words(self, within):
        calls = book_of(25) + [bind(2, 2, [2, 0], 3, within)]
        return [(place[0], place[1]) for place in printed_at(calls, range(25))]

    def test_behind_one_another(self):
        self.assertEqual(self.sheets_of_words(0), [(0, 0)] * 8 + [(0, 1)] * 8 + [(0, 2)] * 8 + [(1, 0)])

    def test_within_one_another(self):
        self.assertEqual(self.sheets_of_words(1), [(0, 0)] * 4 + [(0, 1)] * 4 + [(0, 2)] * 8 + [(0, 1)] * 4
                         + [(0, 0)] * 4 + [(1, 0)])

    def test_places_within_one_another(self):
        self.assertEqual(printed_at(book_of(8) + [bind(1, 2, [0], 2, 1)], range(8)),
                         [(0, 0, 0, 0, 1, 0), (0, 0, 0, 0, 0, 0), (0, 1, 0, 0, 1, 0), (0, 1, 0, 0, 0, 0),
                          (0, 1, 0, 1, 0, 0), (0, 1, 0, 1, 1, 0), (0, 0, 0, 1, 0, 0), (0, 0, 0, 1, 1, 0)])

    def test_words_of_one_page_are_printed_together(self):
        calls = [begins(9, 2), para([plain()] * 5), para([plain()]), para([plain()])]
        self.assertEqual(printed_at(calls, range(7)), [(0, 0, 0, 0, 1, 0)] * 6 + [(0, 0, 0, 0, 0, 0)])

    def test_the_largest_gathering(self):
        # Cut so, the columns 0, 2, 1 and 3 of row 0 lie on top; page 200 is on the fourth leaf of the fourth sheet.
        calls = book_of(200) + [bind(8, 4, [8, 8, 10, 10, 10], 20)]
        self.assertEqual(last(*calls, find(199)), [0, 200, 0, 0, 3, 0, 3, 1, 0])


class TestRefusals(unittest.TestCase):
    def test_no_such_word(self):
        calls = book_of(3)
        self.assertEqual(last(*calls, find(2)), [0, 3, 0, 0, 0, 0, 1, 0, 0])
        self.assertEqual(ask(*calls, find(3), find(4), find(GREATEST))[2:], [[-6], [-6], [-6]])

    def test_the_last_word_there_may_be(self):
        self.assertEqual(ask(*book_of(200), find(199), find(200))[2:], [[0, 200, 0, 49, 0, 0, 1, 1, 0], [-6]])

    def test_a_book_without_words(self):
        self.assertEqual(ask(find(0)), [[-6]])
        self.assertEqual(last(*book_of(3), begins(), find(0)), [-6])

    def test_a_book_that_does_not_settle(self):
        self.assertEqual(ask(*UNSETTLED, find(0), find(1), find(2), find(GREATEST))[2:], [[-7]] * 4)

    def test_words_come_with_paragraphs(self):
        given = ask(find(0), para([plain()]), find(0), find(1), para([]), find(1), para([plain()]), find(1))
        self.assertEqual(given, [[-6], [1], [0, 1, 0, 0, 0, 0, 0, 1, 0], [-6], [-1], [-6], [2],
                                 [0, 1, 1, 0, 0, 0, 0, 1, 0]])


if __name__ == "__main__":
    unittest.main()
