"""The calls that stand in one list, one behind another."""


class Call:
    def __init__(self, number, numbers, lists):
        self.number = number
        self.numbers = numbers
        self.lists = lists


class Reader:
    def __init__(self, source):
        self.source = source
        self.place = 0

    def at_end(self):
        return self.place >= len(self.source)

    def take_number(self):
        number = self.source[self.place]
        self.place += 1
        return number

    # A slice is a copy, so what is kept of it is never the caller's own list.
    def take_list(self):
        length = self.take_number()
        begin = self.place
        self.place += length
        return self.source[begin:self.place]

    def take_call(self):
        number = self.take_number()
        numbers = self.take_list()
        lists = []
        for turn in range(self.take_number()):
            lists.append(self.take_list())
        return Call(number, numbers, lists)


def split_calls(source):
    reader = Reader(source)
    found = []
    while not reader.at_end():
        found.append(reader.take_call())
    return found
