"""How calls are laid out in one list of whole numbers."""

BEGIN = 0
PLACES = 1
READ = 2
WRITE = 3
FLUSH = 4
SLOTS_CALL = 5
PUT_SLOT = 6
OUT_CALL = 7
FILL = 8
GOOD_CALL = 9
STATE = 10
SUM_OF = 11
PEEK = 12
ASKS = 13


class Call:
    def __init__(self, code, numbers, lists):
        self.code = code
        self.numbers = numbers
        self.lists = lists


class Reader:
    def __init__(self, row):
        self.row = row
        self.at = 0

    def has_more(self):
        return self.at < len(self.row)

    def take_number(self):
        self.at += 1
        return self.row[self.at - 1]

    def take_numbers(self):
        count = self.take_number()
        start = self.at
        self.at += count
        return self.row[start:self.at]

    def take_lists(self):
        count = self.take_number()
        return [self.take_numbers() for i in range(count)]

    def take_call(self):
        code = self.take_number()
        numbers = self.take_numbers()
        return Call(code, numbers, self.take_lists())
