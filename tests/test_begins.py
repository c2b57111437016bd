import unittest

from tests.calls import GREATEST, ask, begins, bind, how_far, last, para, plain, settles, sheets

NAMES = ("wide", "high", "first", "here", "ahead", "before")
LEAST = (1, 1, 1, 1, 1, 0)
MOST = (200, 100, 3000, 50, 50, 50)


class TestBounds(unittest.TestCase):
    def test_the_least_and_the_greatest_are_let_in(self):
        for name, least, most in zip(NAMES, LEAST, MOST):
            for number in (least, most):
                with self.subTest(name=name, number=number):
                    self.assertEqual(ask(begins(**{name: number})), [[0]])

    def test_all_at_their_least_and_at_their_greatest(self):
        self.assertEqual(ask(begins(*LEAST), begins(*MOST)), [[0], [0]])

    def test_one_beyond_is_refused(self):
        for name, least, most in zip(NAMES, LEAST, MOST):
            for number in (least - 1, most + 1, GREATEST):
                if number >= 0:
                    with self.subTest(name=name, number=number):
                        self.assertEqual(ask(begins(**{name: number})), [[-1]])


class TestWhatBeginsChanges(unittest.TestCase):
    def test_the_book_is_without_paragraphs(self):
        self.assertEqual(ask(para([plain()]), begins(), settles()), [[1], [0], [0]])

    def test_words_are_counted_anew(self):
        words = [plain()] * 200
        self.assertEqual(ask(para(words), begins(), para(words)), [[200], [0], [200]])

    def test_marks_are_free_again(self):
        self.assertEqual(ask(para([plain(1, 5)]), begins(), para([plain(1, 5)])), [[1], [0], [1]])

    def test_sheets_stay_as_they_are(self):
        given = ask(bind(2, 2, [0, 2], 3), begins(), para([plain()]), sheets())
        self.assertEqual(given[-1], [1, 3, 23])

    def test_a_refusal_changes_nothing(self):
        frame = begins(5, 1, 7, 1, 1, 1)
        words = para([plain(2, 1), plain(2), plain(1)])
        expected = [2, 7, 7, 8]
        self.assertEqual(last(frame, words, settles()), expected)
        for name, most in zip(NAMES, MOST):
            with self.subTest(name=name):
                given = ask(frame, words, begins(**{name: most + 1}), settles(), para([plain(1, 1)]))
                self.assertEqual(given[2:], [[-1], expected, [-3]])


class TestFrame(unittest.TestCase):
    """What the frame is at first, and that begins' numbers come to stand where they should."""

    def pages(self, frame, calls):
        given = last(*(frame + calls + [settles()]))
        return given[1:]

    def lines_before(self, count):
        return [para([plain()]) for k in range(count)]

    def both_frames(self):
        return ([], [begins(60, 30, 1, 4, 16, 5)])

    def check(self, calls, tail):
        for frame in self.both_frames():
            pages = self.pages(frame, calls)
            self.assertEqual(pages[29:], tail)

    def test_wide(self):
        self.check(self.lines_before(29) + [para([plain(30), plain(29)])], [1, 1])
        self.check(self.lines_before(29) + [para([plain(30), plain(30)])], [1, 2])

    def test_high_and_first_page(self):
        for frame in self.both_frames():
            self.assertEqual(self.pages(frame, self.lines_before(32)), [1] * 30 + [2, 2])

    def test_here(self):
        self.check(self.lines_before(29) + [para([how_far(1), plain(55, 1)])], [1, 1])
        self.check(self.lines_before(29) + [para([how_far(1), plain(56, 1)])], [1, 2])

    def test_on_the_next_page(self):
        marked = para([plain(1, 1)])
        self.check(self.lines_before(29) + [para([how_far(1), plain(43)]), marked], [1, 1, 2])
        self.check(self.lines_before(29) + [para([how_far(1), plain(44)]), marked], [1, 2, 2])

    def test_before_a_number(self):
        behind = [para([plain()], 1), para([plain(1, 1)], 1)]
        self.check(self.lines_before(29) + [para([how_far(1), plain(53)])] + behind, [1, 1, 2, 3])
        self.check(self.lines_before(29) + [para([how_far(1), plain(54)])] + behind, [1, 2, 3, 4])

    def test_each_number_has_its_own_place(self):
        frame = [begins(20, 2, 9, 3, 5, 7)]
        fill = [para([plain()])]
        here = fill + [para([how_far(1), plain(16, 1)])]
        self.assertEqual(self.pages(frame, here), [9, 9, 9])
        here = fill + [para([how_far(1), plain(17, 1)])]
        self.assertEqual(self.pages(frame, here), [9, 9, 10])
        ahead = fill + [para([how_far(1), plain(14)]), para([plain(1, 1)])]
        self.assertEqual(self.pages(frame, ahead), [9, 9, 9, 10])
        ahead = fill + [para([how_far(1), plain(15)]), para([plain(1, 1)])]
        self.assertEqual(self.pages(frame, ahead), [9, 9, 10, 10])
        behind = [para([plain()], 1), para([plain(1, 1)], 1)]
        before = fill + [para([how_far(1), plain(10)])] + behind
        self.assertEqual(self.pages(frame, before), [9, 9, 9, 10, 11])
        before = fill + [para([how_far(1), plain(11)])] + behind
        self.assertEqual(self.pages(frame, before), [9, 9, 10, 11, 12])


if __name__ == "__main__":
    unittest.main()
