import unittest

from boundbook.sheets import answers
from tests.calls import begins, bind, digits, find, how_far, leaf, line_of, para, plain, refs, roman, settles, sheets
from tests.calls import side

MIXED = line_of([
    begins(10, 2, 8, 4, 9, 3),
    para([plain(3, 1), digits(2), roman(1, 3)]),
    para([how_far(2), plain(11, 2)], 1),
    settles(),
    bind(2, 2, [0, 2], 2, 1),
    sheets(),
    side(0, 0, 0),
    side(0, 0, 1),
    find(4),
    leaf(0, 0),
    refs(),
    side(1, 0, 0),
    find(5),
    leaf(0, 8),
    para([]),
    para([plain(1, 1)]),
    bind(1, 2, [8], 1, 1),
    begins(0),
    settles(),
])


class TestInterface(unittest.TestCase):
    def test_each_answer_stands_behind_its_count(self):
        given = answers(MIXED)
        self.assertEqual(given, [
            1, 0,
            1, 3,
            1, 5,
            6, 2, 8, 8, 8, 9, 9,
            1, 16,
            3, 1, 2, 14,
            9, 0, 0, 1, 9, 1, 0, 0, 0, 0,
            9, 0, 8, 1, 0, 1, 0, 0, 0, 0,
            9, 0, 9, 1, 0, 0, 0, 1, 0, 1,
            10, 0, 8, 3, 0, 1, 2, 9, 2, 3, 4,
            10, 3, 1, 9, 1, 2, 8, 1, 3, 9, 1,
            1, -6,
            1, -6,
            1, -6,
            1, -1,
            1, -3,
            1, -4,
            1, -1,
            6, 2, 8, 8, 8, 9, 9,
        ])

    def test_answers_are_a_list_of_whole_numbers(self):
        given = answers(MIXED)
        self.assertIs(type(given), list)
        self.assertEqual({type(number) for number in given}, {int})

    def test_what_is_handed_in_stays_as_it_was(self):
        handed = list(MIXED)
        answers(handed)
        self.assertEqual(handed, MIXED)

    def test_what_is_handed_in_is_never_changed_for_a_while(self):
        class Unchanging(list):
            def refuse(self, *numbers):
                raise AssertionError("the list handed in was changed")
            append = extend = insert = pop = remove = clear = sort = reverse = refuse
            __setitem__ = __delitem__ = __iadd__ = __imul__ = refuse
        self.assertEqual(answers(Unchanging(MIXED)), answers(MIXED))

    def test_nothing_is_kept_from_one_time_to_the_next(self):
        first = answers(MIXED)
        first_copy = list(first)
        answers(line_of([begins(7, 7, 7, 7, 7, 7), para([plain(1, 1)]), bind(1, 1, [], 20)]))
        self.assertEqual(answers(MIXED), first_copy)
        first.clear()
        self.assertEqual(answers(MIXED), first_copy)
        self.assertEqual(answers(line_of([settles(), sheets(), side(0, 0, 0), find(0), leaf(0, 0), refs()])),
                         [1, 0, 3, 0, 0, 0, 1, -6, 1, -6, 1, -6, 1, 0])

    def test_forty_calls(self):
        calls = [begins()] + [para([plain()] * 5) for k in range(38)] + [settles()]
        given = answers(line_of(calls))
        self.assertEqual(given[:78], [1, 0] + [n for k in range(38) for n in (1, 5 * k + 5)])
        self.assertEqual(given[78:80], [191, 2])
        self.assertEqual(given[80:], [1] * 150 + [2] * 40)


if __name__ == "__main__":
    unittest.main()
