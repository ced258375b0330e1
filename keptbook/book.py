"""The calls on a book, answered in their order."""

from keptbook.calls import split_calls
from keptbook.refusals import NO_RECORD, OUT_OF_RANGE
from keptbook.volume import Volume

NEW = 1
PUT = 2
DROP = 3
BACK = 4
GET = 5
NAMES = 6
VERSION = 7

MOST_NAME_BYTES = 64
MOST_BODY_BYTES = 65536
MOST_NAMES = 4096


class UnknownCall(ValueError):
    pass


def answers(calls):
    desk = Desk()
    answered = []
    for call in split_calls(calls):
        answer = desk.answer(call)
        answered.append(len(answer))
        answered.extend(answer)
    return answered


def is_name_length(number):
    return 1 <= number <= MOST_NAME_BYTES


class Desk:
    # There is no book before the first call, which is new.
    def __init__(self):
        self.volume = None

    def answer(self, call):
        numbers = call.numbers
        lists = call.lists
        if call.number == NEW:
            return self.answer_new(numbers[0], lists[0], lists[1])
        if call.number == PUT:
            return self.answer_put(numbers, lists[0], lists[1])
        if call.number == DROP:
            return self.answer_drop(numbers[0], lists[0])
        if call.number == BACK:
            return self.answer_back(numbers[0])
        if call.number == GET:
            return self.answer_get(numbers[0], lists[0])
        if call.number == NAMES:
            return self.answer_names(numbers[0], numbers[1])
        if call.number == VERSION:
            return self.answer_version(numbers[0], numbers[1], lists[0])
        raise UnknownCall(str(call.number))

    def answer_new(self, shut, salt, key):
        if not 0 <= shut <= 1:
            return [OUT_OF_RANGE]
        self.volume = Volume(shut, salt, key)
        return [0]

    def answer_put(self, numbers, name, body):
        kind = numbers[0]
        if not (0 <= kind <= 255 and is_name_length(numbers[1]) and 0 <= numbers[2] <= MOST_BODY_BYTES):
            return [OUT_OF_RANGE]
        return [self.volume.put(kind, name, body)]

    def answer_drop(self, name_length, name):
        if not is_name_length(name_length):
            return [OUT_OF_RANGE]
        return [self.volume.drop(name)]

    def answer_back(self, number):
        if not 0 <= number <= self.volume.history.entry_count():
            return [OUT_OF_RANGE]
        return [self.volume.back(number)]

    def answer_get(self, name_length, name):
        if not is_name_length(name_length):
            return [OUT_OF_RANGE]
        record = self.volume.history.record(name)
        if record is None:
            return [NO_RECORD]
        return [record.kind, record.number] + record.body

    def answer_names(self, begin, most):
        if begin < 0 or not 0 <= most <= MOST_NAMES:
            return [OUT_OF_RANGE]
        standing = self.volume.history.standing
        answer = [len(standing)]
        for name in sorted(standing)[begin:begin + most]:
            record = standing[name]
            answer.extend([record.kind, record.number, len(record.body), len(name)])
            answer.extend(name)
        return answer

    def answer_version(self, place, name_length, name):
        if place < 0 or not is_name_length(name_length):
            return [OUT_OF_RANGE]
        versions = self.volume.history.versions(name)
        if place >= len(versions):
            return [NO_RECORD]
        version = versions[place]
        return [len(versions), version.kind, version.number] + version.body
