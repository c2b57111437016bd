"""The book as it is written: its frame, its paragraphs, and which words bear marks."""

# A word's kinds; the one left over, 3, tells by how far.
PLAIN = 0
IN_DIGITS = 1
IN_ROMAN = 2

MOST_LENGTH = 200
MOST_MARK = 20
MOST_WORDS = 200

# In the order in which begins is handed them: wide, high, first page, here, ahead, before.
FRAME_LEAST = (1, 1, 1, 1, 1, 0)
FRAME_MOST = (200, 100, 3000, 50, 50, 50)


class Frame:
    def __init__(self, wide, high, first_page, here, ahead, before):
        self.wide = wide
        self.high = high
        self.first_page = first_page
        self.here = here
        self.ahead = ahead
        self.before = before


class Word:
    def __init__(self, kind, told, own_mark):
        self.kind = kind
        # A plain word's length, or the mark that a reference tells of.
        self.told = told
        self.own_mark = own_mark


class Paragraph:
    def __init__(self, begins_page, words):
        self.begins_page = begins_page
        self.words = words


class Book:
    def __init__(self, frame):
        self.frame = frame
        self.paragraphs = []
        self.word_count = 0
        # From each mark to the number of the word that bears it.
        self.marked = {}


def first_frame():
    return Frame(60, 30, 1, 4, 16, 5)


def frame_fits(numbers):
    for number, least, most in zip(numbers, FRAME_LEAST, FRAME_MOST):
        if number < least or number > most:
            return False
    return True


def words_told(numbers):
    return [Word(numbers[k], numbers[k + 1], numbers[k + 2]) for k in range(0, len(numbers), 3)]


def word_fits(word):
    most_told = MOST_LENGTH if word.kind == PLAIN else MOST_MARK
    return 1 <= word.told <= most_told and word.own_mark <= MOST_MARK


def words_fit(words):
    return len(words) > 0 and all([word_fits(word) for word in words])


def marks_are_new(book, words):
    marks = [word.own_mark for word in words if word.own_mark > 0]
    return len(set(marks)) == len(marks) and not any([mark in book.marked for mark in marks])


def words_have_room(book, words):
    return book.word_count + len(words) <= MOST_WORDS


def add_paragraph(book, begins_page, words):
    for number, word in enumerate(words, start=book.word_count):
        if word.own_mark > 0:
            book.marked[word.own_mark] = number
    book.paragraphs.append(Paragraph(begins_page, words))
    book.word_count += len(words)


def words_of(book):
    words = []
    for paragraph in book.paragraphs:
        words.extend(paragraph.words)
    return words
