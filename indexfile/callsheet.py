"""Parts a list of calls into its single calls."""


class Call:
    def __init__(self, number, numbers, rows):
        self.number = number
        self.numbers = numbers
        self.rows = rows


class Reader:
    def __init__(self, calls):
        self.calls = calls
        self.place = 0

    def has_more(self):
        return self.place < len(self.calls)

    def take_number(self):
        number = self.calls[self.place]
        self.place += 1
        return number

    def take_row(self):
        length = self.take_number()
        row = self.calls[self.place:self.place + length]
        self.place += length
        return row

    def take_rows(self):
        rows = []
        for place in range(self.take_number()):
            rows.append(self.take_row())
        return rows


def single_calls(calls):
    reader = Reader(calls)
    singles = []
    while reader.has_more():
        number = reader.take_number()
        numbers = reader.take_row()
        singles.append(Call(number, numbers, reader.take_rows()))
    return singles
