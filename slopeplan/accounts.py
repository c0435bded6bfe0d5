"""Calls on one new object, told as one list of whole numbers, and their answers as another."""

from slopeplan.books import Book

# For each call: how many whole numbers it has, and how many lists behind these.
SHAPES = {
    0: (2, 2), 1: (0, 1), 2: (1, 0), 3: (1, 0), 4: (2, 0), 5: (2, 0), 6: (1, 0),
    7: (1, 1), 8: (3, 0), 9: (2, 1), 10: (3, 1), 11: (2, 1), 12: (1, 0), 13: (1, 0),
}


class Reader:
    """Goes through a list from its beginning on."""

    def __init__(self, numbers):
        self.numbers = numbers
        self.place = 0

    def is_done(self):
        return self.place >= len(self.numbers)

    def take(self):
        number = self.numbers[self.place]
        self.place += 1
        return number

    def take_many(self, count):
        taken = self.numbers[self.place:self.place + count]
        self.place += count
        return taken

    def take_rows(self, count):
        """So many lists, each with its length ahead of it."""
        rows = []
        while len(rows) < count:
            rows.append(self.take_many(self.take()))
        return rows


def answers(calls):
    reader = Reader(calls)
    book = Book()
    found = []
    while not reader.is_done():
        call = reader.take()
        shape = SHAPES[call]
        numbers = reader.take_many(shape[0])
        rows = reader.take_rows(shape[1])
        answer = answer_one(book, call, numbers, rows)
        found.append(len(answer))
        found.extend(answer)
    return found


def answer_one(book, call, numbers, rows):
    if call == 0:
        return book.plan(numbers[0], numbers[1], rows[0], rows[1])
    if call == 1:
        return book.set_values(rows[0])
    if call == 2:
        return book.fault(numbers[0])
    if call == 3:
        return book.run(numbers[0])
    if call == 4:
        return book.path(numbers[0], numbers[1])
    if call == 5:
        return book.slopes(numbers[0], numbers[1])
    if call == 6:
        return book.table(numbers[0])
    if call == 7:
        return book.pull(numbers[0], rows[0])
    if call == 8:
        return book.elastic(numbers[0], numbers[1], numbers[2])
    if call == 9:
        return book.what_if(numbers[0], numbers[1], rows[0])
    if call == 10:
        return book.aim(numbers[0], numbers[1], numbers[2], rows[0])
    if call == 11:
        return book.first(numbers[0], numbers[1], rows[0])
    if call == 12:
        return book.total(numbers[0])
    return book.code(numbers[0])
