"""How sheets are made into gatherings."""

from boundbook.plan import is_fold, pile_of

SIDES = (1, 2, 4, 8)
MOST_PLACES = 32
MOST_SHEETS = 20


class Binding:
    def __init__(self, rows, columns, pile, sheet_count, within):
        self.rows = rows
        self.columns = columns
        self.pile = pile
        self.sheet_count = sheet_count
        self.within = within


def first_binding():
    return Binding(1, 2, pile_of(1, 2, [0]), 1, 0)


def sheet_fits(rows, columns):
    return rows in SIDES and columns in SIDES and rows * columns <= MOST_PLACES


def sheet_count_fits(sheet_count):
    return 1 <= sheet_count <= MOST_SHEETS


def can_lie_within(steps):
    return len(steps) > 0 and is_fold(steps[-1])


def gathering_pages(binding):
    return 2 * len(binding.pile) * binding.sheet_count


def gathering_count(binding, pages):
    size = gathering_pages(binding)
    return (pages + size - 1) // size
