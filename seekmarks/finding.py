"""The calls: a book taken, needles found in texts, distances of texts, and what is between them."""

from seekmarks.book import Book
from seekmarks.borders import borders, unit_marks
from seekmarks.columns import column_fits, next_column
from seekmarks.differences import as_row, changes_between, patched
from seekmarks.distances import Costs, alignment, costs_fit, distance, longest_common, near
from seekmarks.forms import mark
from seekmarks.judging import judge
from seekmarks.places import first_from, last_to, places, without_overlap
from seekmarks.records import read_book
from seekmarks.refusals import AboveLimit, BrokenRule, NotAsTold, TooLong
from seekmarks.scalars import are_scalars

MOST_OF_BOOK = 8192
MOST_OF_TEXT = 48
MOST_OF_DIFFERENCES = 512
LAST_LIKE = 3
LAST_KIND = 3


class Reader:
    """The numbers of the calls, taken from front to back."""

    def __init__(self, numbers):
        self.numbers = numbers
        self.taken = 0

    def has_more(self):
        return self.taken < len(self.numbers)

    def take_number(self):
        self.taken += 1
        return self.numbers[self.taken - 1]

    def take_numbers(self, size):
        self.taken += size
        return self.numbers[self.taken - size:self.taken]

    def take_row(self):
        return self.take_numbers(self.take_number())


def check_texts(p, t):
    if len(p) > MOST_OF_TEXT or len(t) > MOST_OF_TEXT:
        raise TooLong()


def check_told(told):
    if not told:
        raise NotAsTold()


def check_alike(like, kind, p, t):
    check_texts(p, t)
    check_told(like <= LAST_LIKE and kind <= LAST_KIND and are_scalars(p) and are_scalars(t))


def sought_mark(book, like, p):
    sought = mark(book, like, p)
    check_told(len(sought) > 0)
    return sought


class Seeker:
    """What the calls of one list are made on: the book in force."""

    def __init__(self):
        self.book = Book([], [], [], [])

    def answer(self, reader):
        """Each call takes all its numbers before it may be refused, so that the next one is found."""
        number = reader.take_number()
        if number == 1:
            return self.take_book(reader)
        if number == 2:
            return self.find_place(reader)
        if number == 3:
            return self.find_places(reader)
        if number == 4:
            return self.tell_distance(reader)
        if number == 5:
            return self.find_near(reader)
        return self.answer_between(number, reader)

    def answer_between(self, number, reader):
        """The calls that tell what is between two texts."""
        if number == 6:
            return self.align_texts(reader)
        if number == 7:
            return self.tell_common(reader)
        if number == 8:
            return self.tell_differences(reader)
        if number == 9:
            return self.patch_text(reader)
        if number == 10:
            return self.tell_column(reader)
        raise NotImplementedError(f"no such call: {number}")

    def take_book(self, reader):
        rows = [reader.take_row() for k in range(4)]
        if sum([len(row) for row in rows]) > MOST_OF_BOOK:
            raise TooLong()
        book = read_book(rows[0], rows[1], rows[2], rows[3])
        judge(book)
        self.book = book
        return [0]

    def find_place(self, reader):
        like, kind, start, back = reader.take_numbers(4)
        p = reader.take_row()
        t = reader.take_row()
        check_alike(like, kind, p, t)
        check_told(back <= 1 and start <= len(t))
        found = places(self.book, like, kind, sought_mark(self.book, like, p), t)
        place = first_from(found, start) if back == 0 else last_to(found, start)
        if place is None:
            return [0]
        return [1, place[0], place[1]]

    def find_places(self, reader):
        like, kind, overlap = reader.take_numbers(3)
        p = reader.take_row()
        t = reader.take_row()
        check_alike(like, kind, p, t)
        check_told(overlap <= 1)
        found = places(self.book, like, kind, sought_mark(self.book, like, p), t)
        kept = found if overlap == 1 else without_overlap(found)
        answered = [0, 2 * len(kept)]
        for place in kept:
            answered.extend(place)
        return answered

    def marks_of(self, like, kind, text):
        return unit_marks(self.book, like, text, borders(self.book, kind, text))

    def tell_distance(self, reader):
        like, kind, gap, other, swap, limit = reader.take_numbers(6)
        s = reader.take_row()
        t = reader.take_row()
        check_alike(like, kind, s, t)
        costs = Costs(gap, other, swap)
        check_told(costs_fit(costs))
        least = distance(costs, self.marks_of(like, kind, s), self.marks_of(like, kind, t))
        if least > limit:
            raise AboveLimit()
        return [least]

    def find_near(self, reader):
        like, kind, gap, other, swap, start, limit = reader.take_numbers(7)
        p = reader.take_row()
        t = reader.take_row()
        check_alike(like, kind, p, t)
        costs = Costs(gap, other, swap)
        check_told(costs_fit(costs) and start <= len(t))
        cuts = [cut for cut in borders(self.book, kind, t) if cut >= start]
        found = near(costs, limit, self.marks_of(like, kind, p), unit_marks(self.book, like, t, cuts))
        if found is None:
            return [0]
        beginning, end, least = found
        return [1, cuts[beginning], cuts[end], least]

    def align_texts(self, reader):
        like, kind, gap, other = reader.take_numbers(4)
        s = reader.take_row()
        t = reader.take_row()
        check_alike(like, kind, s, t)
        costs = Costs(gap, other, 0)
        check_told(costs_fit(costs))
        steps = alignment(costs, self.marks_of(like, kind, s), self.marks_of(like, kind, t))
        return [0, len(steps)] + steps

    def tell_common(self, reader):
        like, kind = reader.take_numbers(2)
        s = reader.take_row()
        t = reader.take_row()
        check_alike(like, kind, s, t)
        return [longest_common(self.marks_of(like, kind, s), self.marks_of(like, kind, t))]

    def tell_differences(self, reader):
        kind = reader.take_number()
        s = reader.take_row()
        t = reader.take_row()
        check_alike(0, kind, s, t)
        changes = changes_between(self.marks_of(0, kind, s), self.marks_of(0, kind, t))
        row = as_row(len(s), len(t), changes)
        return [0, len(row)] + row

    def patch_text(self, reader):
        undo = reader.take_number()
        s = reader.take_row()
        differences = reader.take_row()
        if len(s) > MOST_OF_TEXT or len(differences) > MOST_OF_DIFFERENCES:
            raise TooLong()
        check_told(undo <= 1 and are_scalars(s))
        made = patched(s, differences, undo)
        return [0, len(made)] + made

    def tell_column(self, reader):
        plus, minus, alike, above = reader.take_numbers(4)
        if not column_fits(plus, minus, above):
            return [2]
        new_plus, new_minus, across = next_column(plus, minus, alike, above)
        return [0, new_plus, new_minus, across]


def answer_or_refuse(seeker, reader):
    try:
        return seeker.answer(reader)
    except TooLong:
        return [-6]
    except NotAsTold:
        return [-1]
    except AboveLimit:
        return [-2]
    except BrokenRule as broken:
        return [-5, broken.rule, broken.record]


def answers(calls):
    """What each of the calls answers, each answer behind how many numbers it has."""
    reader = Reader(calls)
    seeker = Seeker()
    answered = []
    while reader.has_more():
        answer = answer_or_refuse(seeker, reader)
        answered.append(len(answer))
        answered.extend(answer)
    return answered
