"""Many books, made by a fixed seed, set a second time in another way: by writing their texts out."""

import random
import unittest

from tests.calls import PLAIN, DIGITS, ROMAN, ask, begins, bind, para, settles, sheets
from tests.test_settles import roman_numeral


class Written:
    """A book as texts; a setting is a list of pages."""

    def __init__(self, frame, paragraphs):
        self.wide, self.high, self.first, self.here, self.ahead, self.before = frame
        self.paragraphs = paragraphs
        self.words = [word for begins_page, words in paragraphs for word in words]

    def page_of_mark(self, setting, mark):
        for page, word in zip(setting, self.words):
            if word[2] == mark:
                return page
        return None

    def text(self, setting, number):
        kind, told, own_mark = self.words[number]
        if kind == PLAIN:
            return "p" * told
        page = self.page_of_mark(setting, told)
        if not page:
            return "?"
        if kind == DIGITS:
            return str(page)
        if kind == ROMAN:
            return roman_numeral(page)
        far = page - setting[number]
        return {0: "h" * self.here, 1: "n" * self.ahead}.get(far, "b" * self.before + str(page))

    def lines(self, setting):
        """In which line each word stands."""
        lines, where, number = [], [], 0
        for begins_page, words in self.paragraphs:
            while begins_page and len(lines) % self.high:
                lines.append("")
            for k in range(len(words)):
                text = self.text(setting, number)
                if k and len(lines[-1] + " " + text) <= self.wide:
                    lines[-1] += " " + text
                else:
                    lines.append(text)
                where.append(len(lines) - 1)
                number += 1
        return where

    def one_pass(self, setting):
        return [self.first + line // self.high for line in self.lines(setting)]

    def settings(self):
        """The settings that at most 400 passes come to, up to the first one that comes again."""
        come = [[0] * len(self.words)]
        while come[-1] not in come[:-1] and len(come) < 401:
            come.append(self.one_pass(come[-1]))
        return come

    def answer(self):
        come = self.settings()
        if len(come) > 1 and come[-1] != come[-2]:
            return [-7]
        if not self.words:
            return [0]
        return [come[-1][-1] - self.first + 1] + come[-1]


def any_frame(source):
    first = source.choice((1, 1, 5, 8, 9, 37, 95, 99, 880, 997, 1998, 3000))
    wide = source.choice((1, 5, 9, 14, 20, 60, 200))
    lengths = [source.randint(1, 50), source.randint(1, 50), source.randint(0, 50)]
    return [wide, source.choice((1, 1, 2, 3, 30, 100)), first] + lengths


def any_paragraphs(source):
    free_marks = list(range(1, 21))
    source.shuffle(free_marks)
    paragraphs = []
    for k in range(source.randint(1, 6)):
        words = []
        for j in range(source.randint(1, 12)):
            kind = source.choice((0, 0, 1, 2, 3, 3))
            told = source.randint(1, 12) if kind == PLAIN else source.randint(1, 20)
            words.append((kind, told, free_marks.pop() if free_marks and source.random() < 0.4 else 0))
        paragraphs.append((int(source.random() < 0.25), words))
    return paragraphs


class TestModel(unittest.TestCase):
    def test_settles_and_sheets(self):
        source = random.Random(20)
        unsettled = 0
        for k in range(1500):
            frame, paragraphs = any_frame(source), any_paragraphs(source)
            expected = Written(frame, paragraphs).answer()
            calls = [para(words, begins_page) for begins_page, words in paragraphs]
            given = ask(begins(*frame), *calls, settles(), bind(1, 4, [0, 8], 2), sheets())
            self.assertEqual(given[-3], expected, (frame, paragraphs))
            unsettled += expected == [-7]
            pages = expected[0]
            gatherings = -(-pages // 16)
            self.assertEqual(given[-1], [-7] if pages == -7 else [gatherings, 2 * gatherings, 16 * gatherings - pages])
        self.assertTrue(50 < unsettled < 1450, unsettled)


if __name__ == "__main__":
    unittest.main()
