import unittest

from tests.calls import GREATEST, ask, begins, digits, how_far, last, para, plain, roman, settles

REFERENCES = (digits, roman, how_far)


class TestCount(unittest.TestCase):
    def test_answers_how_many_words_the_book_has(self):
        given = ask(para([plain()]), para([plain(), digits(1)]), para([roman(2), how_far(3), plain(4, 4)], 1))
        self.assertEqual(given, [[1], [3], [6]])

    def test_two_hundred_words_are_let_in(self):
        self.assertEqual(ask(para([plain()] * 200)), [[200]])
        self.assertEqual(ask(para([plain()] * 199), para([plain()])), [[199], [200]])

    def test_more_than_two_hundred_are_refused(self):
        self.assertEqual(ask(para([plain()] * 201)), [[-5]])
        self.assertEqual(ask(para([plain()] * 250)), [[-5]])
        self.assertEqual(ask(para([plain()] * 200), para([plain()])), [[200], [-5]])
        self.assertEqual(ask(para([plain()] * 199), para([plain()] * 2)), [[199], [-5]])


class TestBounds(unittest.TestCase):
    def test_no_word(self):
        self.assertEqual(ask(para([])), [[-1]])
        self.assertEqual(ask(para([], 1)), [[-1]])

    def test_a_plain_words_length(self):
        self.assertEqual(ask(para([plain(1)]), para([plain(200)])), [[1], [2]])
        for length in (0, 201, GREATEST):
            self.assertEqual(ask(para([plain(length)])), [[-1]])

    def test_a_references_mark(self):
        for reference in REFERENCES:
            self.assertEqual(ask(para([reference(1)]), para([reference(20)])), [[1], [2]])
            for mark in (0, 21, 200, GREATEST):
                self.assertEqual(ask(para([reference(mark)])), [[-1]])

    def test_a_words_own_mark(self):
        for word in (plain,) + REFERENCES:
            self.assertEqual(ask(para([word(1, 0)]), para([word(1, 1)]), para([word(1, 20)])), [[1], [2], [3]])
            for mark in (21, GREATEST):
                self.assertEqual(ask(para([word(1, mark)])), [[-1]])

    def test_every_word_is_looked_at(self):
        for place in range(3):
            for wrong in (plain(0), plain(201), digits(0), roman(21), how_far(0), plain(1, 21)):
                words = [plain(), digits(1), plain()]
                words[place] = wrong
                self.assertEqual(ask(para(words)), [[-1]])


class TestMarks(unittest.TestCase):
    def test_all_twenty_marks(self):
        self.assertEqual(ask(para([plain(1, mark) for mark in range(1, 21)])), [[20]])

    def test_a_mark_twice_in_one_paragraph(self):
        self.assertEqual(ask(para([plain(1, 1), plain(), plain(1, 1)])), [[-3]])
        self.assertEqual(ask(para([plain(1, 20), digits(1, 20)])), [[-3]])

    def test_a_mark_that_there_is_already(self):
        self.assertEqual(ask(para([plain(1, 7)]), para([plain(), how_far(7, 7)])), [[1], [-3]])

    def test_no_mark_may_come_often(self):
        self.assertEqual(ask(para([plain(), plain(), digits(1)]), para([plain()])), [[3], [4]])

    def test_many_references_may_tell_of_one_mark(self):
        self.assertEqual(ask(para([digits(1), roman(1), how_far(1), digits(1, 1)]), para([digits(1)])), [[4], [5]])

    def test_a_words_told_number_is_no_mark_of_its_own(self):
        self.assertEqual(ask(para([plain(3), digits(3), plain(1, 3)])), [[3]])


class TestWhichRefusalCounts(unittest.TestCase):
    def test_bounds_before_a_mark_twice(self):
        self.assertEqual(ask(para([plain(1, 1), plain(1, 1), plain(0)])), [[-1]])
        self.assertEqual(ask(para([plain(1, 21), plain(1, 21)])), [[-1]])
        self.assertEqual(ask(para([plain(1, 1)]), para([plain(1, 1), digits(21)])), [[1], [-1]])

    def test_bounds_before_too_many_words(self):
        self.assertEqual(ask(para([plain()] * 200 + [plain(0)])), [[-1]])
        self.assertEqual(ask(para([plain()] * 200), para([])), [[200], [-1]])

    def test_a_mark_twice_before_too_many_words(self):
        self.assertEqual(ask(para([plain(1, 1)] * 201)), [[-3]])
        self.assertEqual(ask(para([plain(1, 1)] + [plain()] * 199), para([plain(1, 1)])), [[200], [-3]])


class TestRefusalsChangeNothing(unittest.TestCase):
    def check(self, refused, number):
        """Behind a refusal the book's words, its marks and its count are as they were."""
        before = [begins(3, 1), para([plain(1, 1), digits(2)])]
        behind = [settles(), para([plain(1, 2), plain(1, 3)]), settles()]
        expected = [[1, 1, 1], [4], [2, 1, 1, 2, 2]]
        self.assertEqual(ask(*(before + behind))[2:], expected)
        self.assertEqual(ask(*(before + [refused] + behind))[2:], [[number]] + expected)

    def test_bounds(self):
        self.check(para([]), -1)
        self.check(para([plain(1, 2), plain(1, 3), plain(0)]), -1)
        self.check(para([plain(1, 2), plain(1, 21)], 1), -1)

    def test_marks(self):
        self.check(para([plain(1, 2), plain(1, 3), plain(1, 1)]), -3)
        self.check(para([plain(1, 2), plain(1, 3), plain(1, 3)], 1), -3)

    def test_too_many_words(self):
        self.check(para([plain(1, 2), plain(1, 3)] + [plain()] * 197), -5)

    def test_what_fits_still_has_room(self):
        self.assertEqual(last(para([plain()] * 199), para([plain()] * 2), para([plain()])), [200])


if __name__ == "__main__":
    unittest.main()
