"""All nine calls in one list, in any order, answered a second time by a model that keeps facts of every page."""

import random
import unittest

from boundbook.sheets import answers
from tests.calls import GREATEST, PLAIN, ask, begins, bind, call, find, leaf, line_of, para, refs, settles, sheets, side
from tests.test_model import Written
from tests.test_plan import pile_by_moving
from tests.test_side import UNSETTLED
from tests.test_whole import any_plan, any_sheets, put_together

# By the calls' numbers.
REFUSALS = ((-1,), (-1, -3, -5), (-7,), (-1, -4), (-7,), (-7, -6), (-7, -6), (-7, -6), (-7,))

BOUNDS = ((1, 200), (1, 100), (1, 3000), (1, 50), (1, 50), (0, 50))


class Model:
    def __init__(self):
        self.frame = [60, 30, 1, 4, 16, 5]
        self.paragraphs = []
        self.bound = (1, 2, [0], 1, 0)
        self.named = [self.begins, self.para, self.settles, self.bind, self.sheets,
                      self.side, self.find, self.leaf, self.refs]

    def answer(self, one):
        return self.named[one[0]](*one[2:2 + one[1]])

    def words(self):
        return [word for begins_page, words in self.paragraphs for word in words]

    def begins(self, *frame):
        if any(not low <= number <= high for number, (low, high) in zip(frame, BOUNDS)):
            return [-1]
        self.frame, self.paragraphs = list(frame), []
        return [0]

    def para(self, begins_page, *numbers):
        words = list(zip(numbers[::3], numbers[1::3], numbers[2::3]))
        wrong = [word for word in words if word[2] > 20 or not 1 <= word[1] <= (20 if word[0] else 200)]
        if wrong or not words:
            return [-1]
        marks = [word[2] for word in self.words() + words if word[2]]
        if len(marks) > len(set(marks)):
            return [-3]
        if len(self.words() + words) > 200:
            return [-5]
        self.paragraphs.append((begins_page, words))
        return [len(self.words())]

    def bind(self, rows, columns, step_count, *rest):
        steps, sheet_count, within = list(rest[:step_count]), rest[-2], rest[-1]
        if {rows, columns} - {1, 2, 4, 8} or rows * columns > 32 or not 1 <= sheet_count <= 20:
            return [-1]
        wide, high = columns, rows
        for step in steps:
            wide, high = (wide / 2, high) if step % 4 < 2 else (wide, high / 2)
        # A step that halves 1 leaves a half, and no later one makes it whole.
        if (wide, high) != (1, 1):
            return [-1]
        if within and (not steps or steps[-1] >= 8):
            return [-4]
        self.bound = (rows, columns, steps, sheet_count, within)
        return [2 * rows * columns * sheet_count]

    def setting(self):
        answer = Written(self.frame, self.paragraphs).answer()
        return None if answer == [-7] else answer[1:]

    def settles(self):
        return Written(self.frame, self.paragraphs).answer()

    def printed(self, setting):
        """Every page of every gathering in order: where it is printed, and its number."""
        rows, columns, steps, sheet_count, within = self.bound
        pile = pile_by_moving(rows, columns, steps)
        leaves = put_together([[(sheet,) + one for one in pile] for sheet in range(sheet_count)], within)
        numbers = list(range(self.frame[2], setting[-1] + 1)) if setting else []
        pages = []
        while numbers:
            gathering = len(pages) // (2 * len(leaves))
            for i, (sheet, row, column, back_up, head) in enumerate(leaves):
                for back in (back_up, 1 - back_up):
                    pages.append({"gathering": gathering, "i": i, "sheet": sheet, "row": row, "column": column,
                                  "back": back, "head": head, "number": numbers.pop(0) if numbers else 0})
        return pages

    def sheets(self):
        setting = self.setting()
        if setting is None:
            return [-7]
        pages = self.printed(setting)
        kinds = {page["gathering"] for page in pages}, {(page["gathering"], page["sheet"]) for page in pages}
        return [len(kinds[0]), len(kinds[1]), len([page for page in pages if page["number"] == 0])]

    def side(self, gathering, sheet, back):
        setting = self.setting()
        if setting is None:
            return [-7]
        pages = [page for page in self.printed(setting)
                 if (page["gathering"], page["sheet"], page["back"]) == (gathering, sheet, back)]
        pages.sort(key=lambda page: (page["row"], -page["column"] if back else page["column"]))
        return [0] + [page[fact] for page in pages for fact in ("number", "head")] if pages else [-6]

    def find(self, word):
        setting = self.setting()
        if setting is None:
            return [-7]
        if word >= len(setting):
            return [-6]
        page = [page for page in self.printed(setting) if page["number"] == setting[word]][0]
        line = Written(self.frame, self.paragraphs).lines(setting)[word] % self.frame[1]
        where = [page[fact] for fact in ("gathering", "sheet", "row", "column", "back", "head")]
        return [0, setting[word], line] + where

    def leaf(self, gathering, i):
        setting = self.setting()
        if setting is None:
            return [-7]
        pages = [page for page in self.printed(setting) if (page["gathering"], page["i"]) == (gathering, i)]
        answer = [0]
        for page in pages:
            words = [word for word in range(len(setting)) if setting[word] == page["number"]]
            answer += [page["number"], len(words)] + words
        return answer if pages else [-6]

    def refs(self):
        setting = self.setting()
        if setting is None:
            return [-7]
        where = {page["number"]: page["gathering"] + 1 for page in self.printed(setting)}
        marked = {word[2]: page for word, page in zip(self.words(), setting) if word[2]}
        answer = []
        for number, word in enumerate(self.words()):
            if word[0] != PLAIN:
                page = marked.get(word[1], 0)
                answer += [number, page, where[page] if page else 0]
        return [len(answer) // 3] + answer


def any_begins(source):
    frame = [source.choice((1, 4, 12, 60)), source.choice((1, 1, 2, 5)), source.choice((1, 8, 97, 3000)),
             source.randint(1, 9), source.randint(1, 9), source.randint(0, 9)]
    if source.random() < 0.2:
        frame[source.randrange(6)] = source.choice((0, 51, 101, 201, 3001, GREATEST))
    return begins(*frame)


def any_para(source):
    words = []
    count = source.choice((0, 1, 2, 5, 8, 20, 90, 150))
    for k in range(count):
        kind = source.choice((0, 0, 0, 1, 2, 3))
        told = source.randint(1, 12) if kind == PLAIN else source.randint(1, 20)
        words.append([kind, told, source.randint(1, 20) if source.random() < 1 / count else 0])
    if words and source.random() < 0.1:
        source.choice(words)[source.choice((1, 2))] = source.choice((0, 21, 200, 201, GREATEST))
    return para(words, source.randint(0, 1))


def any_bind(source):
    rows, columns, steps, sheet_count, within = any_sheets(source, source.choice((1, 2, 8, 32)), 4)
    wrong = source.random()
    if wrong < 0.05:
        return bind(source.choice((0, 3, 16, GREATEST)), columns, steps, sheet_count, within)
    if wrong < 0.1:
        return bind(8, 8, any_plan(source, 8, 8), sheet_count, within)
    if wrong < 0.15:
        return bind(rows, columns, steps[:-1], sheet_count, within)
    if wrong < 0.2:
        return bind(rows, columns, steps + [source.randrange(12)], sheet_count, within)
    if wrong < 0.25:
        return bind(rows, columns, steps, source.choice((0, 21, GREATEST)), 1)
    return bind(rows, columns, steps, sheet_count, source.choice((within, within, 1)))


def any_number(source, most):
    return source.choice((GREATEST, most)) if source.random() < 0.03 else source.randint(0, most)


def any_asking(source):
    return source.choice((
        settles(), sheets(), refs(), find(any_number(source, 30)),
        side(any_number(source, 2), any_number(source, 2), any_number(source, 1)),
        side(0, any_number(source, 1), any_number(source, 2)),
        leaf(any_number(source, 1), any_number(source, 5)), leaf(0, any_number(source, 20))))


def any_call(source):
    chance = source.random()
    if chance < 0.05:
        return any_begins(source)
    if chance < 0.25:
        return any_para(source)
    if chance < 0.35:
        return any_bind(source)
    return any_asking(source)


def any_calls(source):
    calls = [any_call(source) for k in range(source.randint(1, 38))]
    # Few books made so don't settle: one that doesn't is put between now and then.
    at = source.randrange(3 * len(calls))
    return calls[:at] + UNSETTLED + calls[at:] if at < len(calls) else calls


class TestAnyOrder(unittest.TestCase):
    def test_many_lists_of_calls(self):
        source = random.Random(9)
        seen = {}
        for k in range(500):
            model = Model()
            calls = any_calls(source)
            for one, given in zip(calls, ask(*calls), strict=True):
                self.assertEqual(given, model.answer(one), (calls, one))
                kind = (one[0], min(given[0], 0) if len(given) == 1 else 0)
                seen[kind] = seen.get(kind, 0) + 1
        expected = [(one, number) for one, numbers in enumerate(REFUSALS) for number in (0,) + numbers]
        self.assertEqual(sorted(seen), sorted(expected))
        self.assertGreater(min(seen.values()), 50)

    def test_what_is_handed_in_and_what_is_answered(self):
        source = random.Random(10)
        for k in range(100):
            calls = line_of(any_calls(source))
            handed = list(calls)
            first = answers(handed)
            self.assertEqual(handed, calls)
            answers(call(1, [0, 0, 1, 1]))
            self.assertEqual(answers(handed), first)
            self.assertEqual({type(number) for number in first}, {int})


if __name__ == "__main__":
    unittest.main()
