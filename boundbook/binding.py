"""How sheets are made into gatherings, and in which order one comes to their leaves."""

from boundbook.plan import is_fold, pile_of

SIDES = (1, 2, 4, 8)
MOST_PLACES = 32
MOST_SHEETS = 20


class Binding:
    def __init__(self, rows, columns, pile, sheet_count, within):
        self.rows = rows
        self.columns = columns
        self.pile = pile
        self.sheet_count = sheet_count
        self.within = within


class BoundLeaf:
    def __init__(self, sheet, leaf):
        # Which sheet of its gathering the leaf is of.
        self.sheet = sheet
        self.leaf = leaf


def first_binding():
    return Binding(1, 2, pile_of(1, 2, [0]), 1, 0)


def sheet_fits(rows, columns):
    return rows in SIDES and columns in SIDES and rows * columns <= MOST_PLACES


def sheet_count_fits(sheet_count):
    return 1 <= sheet_count <= MOST_SHEETS


def can_lie_within(steps):
    return len(steps) > 0 and is_fold(steps[-1])


def gathering_pages(binding):
    return 2 * len(binding.pile) * binding.sheet_count


def gathering_count(binding, pages):
    size = gathering_pages(binding)
    return (pages + size - 1) // size


def bound_leaves(sheet, leaves):
    return [BoundLeaf(sheet, leaf) for leaf in leaves]


def leaves_behind(pile, sheet_count):
    leaves = []
    for sheet in range(sheet_count):
        leaves.extend(bound_leaves(sheet, pile))
    return leaves


def leaves_within(pile, sheet_count):
    middle = len(pile) // 2
    leaves = []
    for sheet in range(sheet_count):
        leaves.extend(bound_leaves(sheet, pile[:middle]))
    for sheet in range(sheet_count - 1, -1, -1):
        leaves.extend(bound_leaves(sheet, pile[middle:]))
    return leaves


def gathering_leaves(binding):
    """Give a gathering's leaves in the order in which one comes to them by turning leaves."""
    if binding.within == 1:
        return leaves_within(binding.pile, binding.sheet_count)
    return leaves_behind(binding.pile, binding.sheet_count)
