"""Reading calls out of one list of numbers."""


class Call:
    def __init__(self, kind, numbers, lists):
        self.kind = kind
        self.numbers = numbers
        self.lists = lists


# A place in the list of calls; the list is only read.
class Reader:
    def __init__(self, calls):
        self.calls = calls
        self.place = 0


def has_more(reader):
    return reader.place < len(reader.calls)


def read_number(reader):
    number = reader.calls[reader.place]
    reader.place += 1
    return number


def read_numbers(reader):
    count = read_number(reader)
    start = reader.place
    reader.place = start + count
    return reader.calls[start:start + count]


def read_call(reader):
    kind = read_number(reader)
    numbers = read_numbers(reader)
    lists = []
    for turn in range(read_number(reader)):
        lists.append(read_numbers(reader))
    return Call(kind, numbers, lists)
