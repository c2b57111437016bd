import unittest

from tests.calls import GREATEST, ask, begins, bind, how_far, last, para, plain, side

UNSETTLED = [begins(10, 1, 1, 9, 1, 5), para([how_far(1), plain(1, 1)])]


def book_of(pages, first=1):
    """A book with one word on each page."""
    return [begins(1, 1, first), para([plain()] * pages)]


def both_sides(calls, gathering=0, sheet=0):
    """The front and the back, each as pairs of a page's number and whether its head is below."""
    told = []
    for answer in ask(*calls, side(gathering, sheet, 0), side(gathering, sheet, 1))[-2:]:
        assert answer[0] == 0, answer
        told.append(list(zip(answer[1::2], answer[2::2])))
    return told


def page_numbers(calls, gathering=0, sheet=0):
    return [[page for page, head_below in told] for told in both_sides(calls, gathering, sheet)]


class TestEachStep(unittest.TestCase):
    def test_sideways(self):
        expected = {0: [[2, 3], [4, 1]], 1: [[3, 2], [1, 4]], 4: [[4, 1], [2, 3]],
                    5: [[1, 4], [3, 2]], 8: [[1, 3], [4, 2]], 9: [[3, 1], [2, 4]]}
        for step, numbers in expected.items():
            calls = book_of(4) + [bind(1, 2, [step])]
            self.assertEqual(page_numbers(calls), numbers, step)
            self.assertEqual({head for told in both_sides(calls) for page, head in told}, {0}, step)

    def test_the_other_way(self):
        expected = {2: [[(2, 1), (3, 0)], [(1, 1), (4, 0)]], 3: [[(3, 0), (2, 1)], [(4, 0), (1, 1)]],
                    6: [[(4, 1), (1, 0)], [(3, 1), (2, 0)]], 7: [[(1, 0), (4, 1)], [(2, 0), (3, 1)]],
                    10: [[(1, 0), (3, 0)], [(2, 0), (4, 0)]], 11: [[(3, 0), (1, 0)], [(4, 0), (2, 0)]]}
        for step, told in expected.items():
            self.assertEqual(both_sides(book_of(4) + [bind(2, 1, [step])]), told, step)

    def test_one_place_and_no_step(self):
        calls = book_of(5) + [bind(1, 1, [])]
        self.assertEqual(both_sides(calls, 0), [[(1, 0)], [(2, 0)]])
        self.assertEqual(both_sides(calls, 2), [[(5, 0)], [(0, 0)]])


class TestStepsTogether(unittest.TestCase):
    def test_row_by_row_and_the_back_turned_over_sideways(self):
        self.assertEqual(both_sides(book_of(8, 5) + [bind(2, 2, [0, 2])]),
                         [[(7, 1), (6, 1), (10, 0), (11, 0)], [(5, 1), (8, 1), (12, 0), (9, 0)]])

    def test_more_columns_than_rows(self):
        # Each row comes to columns 3, 0, 1 and 2 from the top, the fronts of 3 and 1 up; row 0 is put upon row 1.
        calls = book_of(16) + [bind(2, 4, [5, 0, 10])]
        self.assertEqual(page_numbers(calls), [[4, 5, 8, 1, 12, 13, 16, 9], [2, 7, 6, 3, 10, 15, 14, 11]])

    def test_a_head_turned_twice_is_above(self):
        self.assertEqual(both_sides(book_of(8) + [bind(4, 1, [2, 2])]),
                         [[(6, 1), (3, 0), (2, 1), (7, 0)], [(5, 1), (4, 0), (1, 1), (8, 0)]])


class TestBeforeAnyBind(unittest.TestCase):
    def test_one_step_and_one_sheet(self):
        self.assertEqual(page_numbers(book_of(8)), [[2, 3], [4, 1]])
        self.assertEqual(page_numbers(book_of(8), 1), [[6, 7], [8, 5]])


class TestSeveralSheets(unittest.TestCase):
    def test_behind_one_another(self):
        calls = book_of(16) + [bind(1, 2, [0], 2, 0)]
        self.assertEqual(page_numbers(calls, 0, 0), [[2, 3], [4, 1]])
        self.assertEqual(page_numbers(calls, 0, 1), [[6, 7], [8, 5]])
        self.assertEqual(page_numbers(calls, 1, 0), [[10, 11], [12, 9]])
        self.assertEqual(page_numbers(calls, 1, 1), [[14, 15], [16, 13]])

    def test_within_one_another(self):
        calls = book_of(16) + [bind(1, 2, [0], 2, 1)]
        self.assertEqual(page_numbers(calls, 0, 0), [[2, 7], [8, 1]])
        self.assertEqual(page_numbers(calls, 0, 1), [[4, 5], [6, 3]])
        self.assertEqual(page_numbers(calls, 1, 0), [[10, 15], [16, 9]])
        self.assertEqual(page_numbers(calls, 1, 1), [[12, 13], [14, 11]])

    def test_one_sheet_within_one_another_is_as_behind(self):
        for steps in ([0, 2], [8, 7], [3, 1]):
            self.assertEqual(both_sides(book_of(8) + [bind(2, 2, steps, 1, 1)]),
                             both_sides(book_of(8) + [bind(2, 2, steps, 1, 0)]))

    def test_half_a_pile_of_several_leaves(self):
        calls = book_of(24) + [bind(2, 2, [2, 0], 3, 1)]
        # The pile from the top: row 1 and row 0 of column 0, row 0 and row 1 of column 1.
        self.assertEqual(both_sides(calls, 0, 0)[0], [(3, 1), (22, 1), (2, 0), (23, 0)])
        self.assertEqual(both_sides(calls, 0, 0)[1], [(21, 1), (4, 1), (24, 0), (1, 0)])
        self.assertEqual(page_numbers(calls, 0, 1), [[7, 18, 6, 19], [17, 8, 20, 5]])
        self.assertEqual(page_numbers(calls, 0, 2), [[11, 14, 10, 15], [13, 12, 16, 9]])

    def test_sheets_of_one_place(self):
        calls = book_of(6) + [bind(1, 1, [], 3)]
        self.assertEqual([page_numbers(calls, 0, sheet) for sheet in range(3)], [[[1], [2]], [[3], [4]], [[5], [6]]])


class TestBlankPages(unittest.TestCase):
    def test_behind_the_last_page(self):
        self.assertEqual(page_numbers(book_of(5), 1), [[0, 0], [0, 5]])
        self.assertEqual(page_numbers(book_of(7), 1), [[6, 7], [0, 5]])

    def test_a_sheet_of_blank_pages(self):
        calls = book_of(1) + [bind(1, 2, [0], 20)]
        self.assertEqual(page_numbers(calls, 0, 0), [[0, 0], [0, 1]])
        self.assertEqual(page_numbers(calls, 0, 19), [[0, 0], [0, 0]])

    def test_a_blank_pages_head_is_where_its_leaf_is_turned_to(self):
        self.assertEqual(both_sides(book_of(1, 9) + [bind(2, 1, [2])]), [[(0, 1), (0, 0)], [(9, 1), (0, 0)]])


class TestRefusals(unittest.TestCase):
    def test_no_such_gathering_sheet_or_side(self):
        calls = book_of(9) + [bind(1, 2, [0], 2)]
        self.assertEqual(last(*calls, side(1, 1, 1))[0], 0)
        for beyond in ((2, 1, 1), (1, 2, 1), (1, 1, 2), (2, 2, 2)):
            self.assertEqual(last(*calls, side(*beyond)), [-6], beyond)
        for far in ((GREATEST, 0, 0), (0, GREATEST, 0), (0, 0, GREATEST)):
            self.assertEqual(last(*calls, side(*far)), [-6], far)

    def test_a_gathering_more_with_a_page_more(self):
        self.assertEqual(last(*book_of(4), side(1, 0, 0)), [-6])
        self.assertEqual(last(*book_of(5), side(1, 0, 1)), [0, 0, 0, 5, 0])

    def test_a_book_without_words(self):
        self.assertEqual(ask(side(0, 0, 0), side(0, 0, 1)), [[-6], [-6]])
        self.assertEqual(last(*book_of(4), begins(), side(0, 0, 0)), [-6])

    def test_a_book_that_does_not_settle(self):
        self.assertEqual(ask(*UNSETTLED, side(0, 0, 0), side(9, 9, 9), side(0, 0, 2))[2:], [[-7], [-7], [-7]])


class TestWhatItTellsOf(unittest.TestCase):
    def test_the_sheets_as_they_are_now(self):
        given = ask(*book_of(4), side(0, 0, 0), bind(2, 1, [10]), side(0, 0, 0), bind(3, 1, []), side(0, 0, 0))
        self.assertEqual(given[2:], [[0, 2, 0, 3, 0], [4], [0, 1, 0, 3, 0], [-1], [0, 1, 0, 3, 0]])

    def test_begins_leaves_the_sheets(self):
        given = ask(bind(1, 2, [8]), begins(1, 1, 70), para([plain()] * 3), side(0, 0, 1))
        self.assertEqual(given[-1], [0, 0, 0, 71, 0])


if __name__ == "__main__":
    unittest.main()
