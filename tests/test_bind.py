import unittest

from boundbook.binding import first_binding
from boundbook.sheets import Work, answer_bind
from tests.calls import GREATEST, ask, begins, bind, how_far, last, para, plain, settles, sheets

SIDES = (1, 2, 4, 8)
SIDEWAYS = (0, 1, 4, 5, 8, 9)
OTHER_WAY = (2, 3, 6, 7, 10, 11)


def plan_for(rows, columns):
    """Folds alone, first sideways, then the other way."""
    return [0] * (columns.bit_length() - 1) + [2] * (rows.bit_length() - 1)


class TestSheet(unittest.TestCase):
    def test_every_sheet_that_is_let_in(self):
        for rows in SIDES:
            for columns in SIDES:
                expected = 2 * rows * columns if rows * columns <= 32 else -1
                with self.subTest(rows=rows, columns=columns):
                    self.assertEqual(ask(bind(rows, columns, plan_for(rows, columns))), [[expected]])

    def test_rows_and_columns_that_are_refused(self):
        for number in (0, 3, 5, 6, 7, 9, 16, 32, GREATEST):
            for steps in ([], [0], [2], [0] * 4, [2] * 4, [2] * 5):
                with self.subTest(number=number, steps=steps):
                    self.assertEqual(ask(bind(number, 1, steps), bind(1, number, steps)), [[-1], [-1]])

    def test_more_than_32_places(self):
        self.assertEqual(ask(bind(8, 8, [0, 0, 0, 2, 2, 2])), [[-1]])
        self.assertEqual(ask(bind(8, 4, [0, 0, 2, 2, 2])), [[64]])
        self.assertEqual(ask(bind(4, 8, [0, 0, 0, 2, 2])), [[64]])


class TestSteps(unittest.TestCase):
    def test_each_step(self):
        for step in SIDEWAYS:
            self.assertEqual(ask(bind(1, 2, [step]), bind(2, 1, [step])), [[4], [-1]])
        for step in OTHER_WAY:
            self.assertEqual(ask(bind(2, 1, [step]), bind(1, 2, [step])), [[4], [-1]])

    def test_in_any_order(self):
        for first in SIDEWAYS:
            for second in OTHER_WAY:
                self.assertEqual(ask(bind(2, 2, [first, second]), bind(2, 2, [second, first])), [[8], [8]])

    def test_no_step(self):
        self.assertEqual(ask(bind(1, 1, [])), [[2]])
        self.assertEqual(ask(bind(1, 2, []), bind(2, 1, []), bind(8, 4, [])), [[-1], [-1], [-1]])

    def test_more_than_one_place_is_left(self):
        self.assertEqual(ask(bind(2, 2, [0]), bind(2, 2, [2]), bind(1, 8, [0, 0])), [[-1], [-1], [-1]])

    def test_going_on_behind_one_place(self):
        for step in range(12):
            self.assertEqual(ask(bind(1, 1, [step]), bind(1, 2, [0, step]), bind(2, 1, [2, step])), [[-1]] * 3)
        self.assertEqual(ask(bind(8, 4, [0] * 12), bind(8, 4, [0, 0, 2, 2, 2] + [0] * 7)), [[-1], [-1]])


class TestSheetsInAGathering(unittest.TestCase):
    def test_pages_of_a_gathering(self):
        for count in range(1, 21):
            self.assertEqual(ask(bind(2, 4, [0, 2, 0], count), bind(1, 1, [], count)), [[16 * count], [2 * count]])
            self.assertEqual(ask(bind(2, 4, [0, 2, 0], count, 1)), [[16 * count]])

    def test_counts_that_are_refused(self):
        for count in (0, 21, GREATEST):
            self.assertEqual(ask(bind(1, 2, [0], count), bind(1, 2, [0], count, 1)), [[-1], [-1]])


class TestWithinOneAnother(unittest.TestCase):
    def test_a_last_step_that_is_a_fold(self):
        for step in SIDEWAYS:
            expected = 4 if step < 8 else -4
            self.assertEqual(ask(bind(1, 2, [step], 1, 1)), [[expected]])
        for step in OTHER_WAY:
            expected = 4 if step < 8 else -4
            self.assertEqual(ask(bind(2, 1, [step], 1, 1)), [[expected]])

    def test_the_last_step_alone_counts(self):
        self.assertEqual(ask(bind(2, 2, [8, 2], 2, 1), bind(2, 2, [2, 8], 2, 1)), [[16], [-4]])

    def test_no_step(self):
        self.assertEqual(ask(bind(1, 1, [], 1, 1), bind(1, 1, [], 1, 0)), [[-4], [2]])

    def test_behind_one_another_any_step_may_be_last(self):
        self.assertEqual(ask(bind(1, 2, [8], 20), bind(2, 1, [11], 20)), [[80], [80]])


class TestWhichRefusalCounts(unittest.TestCase):
    def test_bounds_before_within(self):
        self.assertEqual(ask(bind(3, 1, [], 1, 1)), [[-1]])
        self.assertEqual(ask(bind(8, 8, [8, 8, 8, 10, 10, 10], 1, 1)), [[-1]])
        self.assertEqual(ask(bind(1, 2, [], 1, 1)), [[-1]])
        self.assertEqual(ask(bind(1, 2, [10], 1, 1)), [[-1]])
        self.assertEqual(ask(bind(1, 2, [0, 8], 1, 1)), [[-1]])
        self.assertEqual(ask(bind(1, 2, [8], 0, 1), bind(1, 2, [8], 21, 1), bind(1, 1, [], 0, 1)), [[-1]] * 3)


class TestWhatBindChanges(unittest.TestCase):
    def test_from_now_on_sheets_are_so(self):
        book = para([plain()])
        self.assertEqual(ask(book, sheets(), bind(2, 2, [0, 2], 3), sheets(), bind(1, 1, []), sheets()),
                         [[1], [1, 1, 3], [24], [1, 3, 23], [2], [1, 1, 1]])

    def check_kept(self, binding, rows, columns, leaves, sheet_count, within):
        kept = [(leaf.row, leaf.column, leaf.back_up, leaf.head_below) for leaf in binding.pile]
        self.assertEqual(kept, leaves)
        self.assertEqual((binding.rows, binding.columns), (rows, columns))
        self.assertEqual((binding.sheet_count, binding.within), (sheet_count, within))

    def test_what_sheets_are_at_first(self):
        self.check_kept(first_binding(), 1, 2, [(0, 0, 1, 0), (0, 1, 0, 0)], 1, 0)
        self.check_kept(Work().binding, 1, 2, [(0, 0, 1, 0), (0, 1, 0, 0)], 1, 0)

    def test_what_is_kept_of_them(self):
        work = Work()
        self.assertEqual(answer_bind(work, [2, 1, 1, 7, 3, 1]), [12])
        self.check_kept(work.binding, 2, 1, [(0, 0, 0, 0), (1, 0, 1, 1)], 3, 1)
        self.assertEqual(answer_bind(work, [2, 1, 1, 11, 3, 1]), [-4])
        self.check_kept(work.binding, 2, 1, [(0, 0, 0, 0), (1, 0, 1, 1)], 3, 1)

    def test_a_refusal_changes_nothing(self):
        refusals = [(bind(3, 1, []), -1), (bind(8, 8, [0, 0, 0, 2, 2, 2]), -1), (bind(1, 2, []), -1),
                    (bind(1, 2, [0, 0]), -1), (bind(1, 1, [], 21), -1), (bind(1, 1, [], 5, 1), -4),
                    (bind(1, 2, [8], 5, 1), -4)]
        for refused, number in refusals:
            given = ask(bind(2, 4, [0, 2, 0], 2, 1), para([plain()]), refused, sheets(), settles())
            self.assertEqual(given, [[32], [1], [number], [1, 2, 31], [1, 1]])
            self.assertEqual(ask(refused, para([plain()]), sheets()), [[number], [1], [1, 1, 3]])

    def test_the_book_stays_as_it_is(self):
        given = ask(begins(4, 1, 9), para([plain(1, 1), plain(3)]), bind(4, 1, [2, 3]), settles(), para([plain(1, 1)]))
        self.assertEqual(given, [[0], [2], [8], [2, 9, 10], [-3]])

    def test_it_is_let_in_though_the_book_does_not_settle(self):
        self.assertEqual(last(begins(10, 1, 1, 9, 1, 5), para([how_far(1), plain(1, 1)]), bind(1, 4, [0, 0])), [8])


if __name__ == "__main__":
    unittest.main()
