"""How a book is set: each word's length, line and page, and the setting in which the book settles.

A setting is a tuple of pages, one for each word of the book in order; 0 is a page that isn't known.
"""

from boundbook.book import IN_DIGITS, IN_ROMAN, PLAIN

MOST_PASSES = 400
UNKNOWN_LENGTH = 1

# How many Roman signs each decimal digit takes, at the ones as at the tens and the hundreds.
ROMAN_SIGNS = (0, 1, 2, 3, 2, 1, 2, 3, 4, 2)


def digits_length(page):
    return len(str(page))


def roman_length(page):
    hundreds = ROMAN_SIGNS[page // 100 % 10]
    tens = ROMAN_SIGNS[page // 10 % 10]
    ones = ROMAN_SIGNS[page % 10]
    return page // 1000 + hundreds + tens + ones


def how_far_length(frame, own_page, mark_page):
    if own_page == 0:
        return UNKNOWN_LENGTH
    if mark_page == own_page:
        return frame.here
    if mark_page == own_page + 1:
        return frame.ahead
    return frame.before + digits_length(mark_page)


def reference_length(frame, kind, own_page, mark_page):
    if mark_page == 0:
        return UNKNOWN_LENGTH
    if kind == IN_DIGITS:
        return digits_length(mark_page)
    if kind == IN_ROMAN:
        return roman_length(mark_page)
    return how_far_length(frame, own_page, mark_page)


def page_of_mark(book, setting, mark):
    if mark not in book.marked:
        return 0
    return setting[book.marked[mark]]


def paragraph_lengths(book, setting, words, first_number):
    lengths = []
    for number, word in enumerate(words, start=first_number):
        if word.kind == PLAIN:
            lengths.append(word.told)
        else:
            mark_page = page_of_mark(book, setting, word.told)
            lengths.append(reference_length(book.frame, word.kind, setting[number], mark_page))
    return lengths


def paragraph_lines(wide, first_line, lengths):
    lines = []
    line = first_line
    used = 0
    for length in lengths:
        if len(lines) == 0:
            used = length
        elif used + 1 + length <= wide:
            used += 1 + length
        else:
            line += 1
            used = length
        lines.append(line)
    return lines


def line_where_page_begins(high, line):
    return (line + high - 1) // high * high


def lines_of(book, setting):
    lines = []
    free_line = 0
    for paragraph in book.paragraphs:
        if paragraph.begins_page == 1:
            free_line = line_where_page_begins(book.frame.high, free_line)
        lengths = paragraph_lengths(book, setting, paragraph.words, len(lines))
        lines.extend(paragraph_lines(book.frame.wide, free_line, lengths))
        free_line = lines[-1] + 1
    return lines


def pass_of(book, setting):
    frame = book.frame
    return tuple([frame.first_page + line // frame.high for line in lines_of(book, setting)])


def unknown_setting(book):
    return (0,) * book.word_count


def settled(book):
    """Give the book's setting, or None if the book doesn't settle."""
    setting = unknown_setting(book)
    seen = {setting: True}
    # The pass that shows a setting to stay is one of those counted.
    for made in range(MOST_PASSES):
        following = pass_of(book, setting)
        if following == setting:
            return setting
        if following in seen:
            return None
        seen[following] = True
        setting = following
    return None


def page_count(book, setting):
    if len(setting) == 0:
        return 0
    return setting[-1] - book.frame.first_page + 1
