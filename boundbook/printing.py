"""A settled book printed on its sheets: which page stands where, and which words stand on it.

A place in the bound book is told by the gathering, the leaf's place there as one comes to it by turning leaves, and
0 for the leaf's upper side in the pile or 1 for its lower one.
"""

from boundbook.binding import gathering_count, gathering_leaves, gathering_pages
from boundbook.book import PLAIN, words_of
from boundbook.setting import lines_of, page_count, page_of_mark


class Printed:
    def __init__(self, book, setting, binding):
        self.book = book
        self.setting = setting
        self.binding = binding


class BoundPage:
    def __init__(self, gathering, leaf_place, lower_side):
        self.gathering = gathering
        self.leaf_place = leaf_place
        self.lower_side = lower_side


def pages_of_book(printed):
    return page_count(printed.book, printed.setting)


def gatherings_of_book(printed):
    return gathering_count(printed.binding, pages_of_book(printed))


def blank_pages(printed):
    return gatherings_of_book(printed) * gathering_pages(printed.binding) - pages_of_book(printed)


def has_gathering(printed, gathering):
    return gathering < gatherings_of_book(printed)


def has_side(printed, gathering, sheet, back):
    return has_gathering(printed, gathering) and sheet < printed.binding.sheet_count and back <= 1


def has_leaf(printed, gathering, leaf_place):
    return has_gathering(printed, gathering) and 2 * leaf_place < gathering_pages(printed.binding)


def has_word(printed, word):
    return word < printed.book.word_count


def page_number(printed, bound):
    """Give the number of the page that stands there, 0 if it's a blank one."""
    before = bound.gathering * gathering_pages(printed.binding) + 2 * bound.leaf_place + bound.lower_side
    if before >= pages_of_book(printed):
        return 0
    return printed.book.frame.first_page + before


def where_bound(printed, page):
    before = page - printed.book.frame.first_page
    size = gathering_pages(printed.binding)
    return BoundPage(before // size, before % size // 2, before % 2)


def other_face(leaf, face):
    """Make of 0 or 1 for the upper or the lower side 0 or 1 for the front or the back, and the other way round."""
    return 1 - face if leaf.back_up == 1 else face


def column_seen(binding, column, back):
    return binding.columns - 1 - column if back == 1 else column


def side_told(printed, gathering, sheet, back):
    binding = printed.binding
    told = [0] * (2 * binding.rows * binding.columns)
    for leaf_place, bound_leaf in enumerate(gathering_leaves(binding)):
        if bound_leaf.sheet == sheet:
            leaf = bound_leaf.leaf
            at = 2 * (leaf.row * binding.columns + column_seen(binding, leaf.column, back))
            told[at] = page_number(printed, BoundPage(gathering, leaf_place, other_face(leaf, back)))
            # Turned over sideways, a sheet keeps its upper edge: a leaf's head is below on both sides or on none.
            told[at + 1] = leaf.head_below
    return told


def line_on_page(printed, word):
    return lines_of(printed.book, printed.setting)[word] % printed.book.frame.high


def word_found(printed, word):
    page = printed.setting[word]
    bound = where_bound(printed, page)
    bound_leaf = gathering_leaves(printed.binding)[bound.leaf_place]
    leaf = bound_leaf.leaf
    told = [page, line_on_page(printed, word), bound.gathering, bound_leaf.sheet]
    return told + [leaf.row, leaf.column, other_face(leaf, bound.lower_side), leaf.head_below]


def words_on(printed, page):
    return [word for word, word_page in enumerate(printed.setting) if word_page == page]


def page_told(printed, bound):
    page = page_number(printed, bound)
    words = words_on(printed, page)
    return [page, len(words)] + words


def leaf_told(printed, gathering, leaf_place):
    upper = page_told(printed, BoundPage(gathering, leaf_place, 0))
    lower = page_told(printed, BoundPage(gathering, leaf_place, 1))
    return upper + lower


def mark_told(printed, mark):
    page = page_of_mark(printed.book, printed.setting, mark)
    if page == 0:
        return [0, 0]
    return [page, where_bound(printed, page).gathering + 1]


def references_told(printed):
    count = 0
    told = []
    for number, word in enumerate(words_of(printed.book)):
        if word.kind != PLAIN:
            count += 1
            told.extend([number] + mark_told(printed, word.told))
    return [count] + told
