"""The calls on a book, answered in their order."""

from keptbook.calls import split_calls
from keptbook.digest import sum_of
from keptbook.intake import take_entries
from keptbook.layout import HEAD_BYTES, begins_as_head, salt_of
from keptbook.limits import MOST_BODY_BYTES, MOST_BOOK_BYTES, is_name_length
from keptbook.refusals import NO_HEAD, NO_RECORD, OUT_OF_RANGE, WRONG_HEAD_SUM
from keptbook.volume import Volume

NEW = 1
PUT = 2
DROP = 3
BACK = 4
GET = 5
NAMES = 6
VERSION = 7
BYTES = 8
READ = 9
ALIKE = 10
SQUEEZE = 11
SUM = 12
STATE = 13

MOST_NAMES = 4096
MOST_SHOWN_BYTES = 65536
MOST_SUMMED_BYTES = 65536


class UnknownCall(ValueError):
    pass


def answers(calls):
    desk = Desk()
    answered = []
    for call in split_calls(calls):
        answer = desk.answer(call)
        answered.append(len(answer))
        answered.extend(answer)
    return answered


def common_length(left, right):
    count = 0
    for one, other in zip(left, right):
        if one != other:
            break
        count += 1
    return count


class Desk:
    # There is no book before the first call, which is new.
    def __init__(self):
        self.volume = None

    def answer(self, call):
        numbers = call.numbers
        lists = call.lists
        if call.number == NEW:
            return self.answer_new(numbers[0], lists[0], lists[1])
        if call.number == PUT:
            return self.answer_put(numbers, lists[0], lists[1])
        if call.number == DROP:
            return self.answer_drop(numbers[0], lists[0])
        if call.number == BACK:
            return self.answer_back(numbers[0])
        if call.number == GET:
            return self.answer_get(numbers[0], lists[0])
        if call.number == NAMES:
            return self.answer_names(numbers[0], numbers[1])
        if call.number == VERSION:
            return self.answer_version(numbers[0], numbers[1], lists[0])
        if call.number == BYTES:
            return self.answer_bytes(numbers[0], numbers[1])
        if call.number == READ:
            return self.answer_read(numbers[0], numbers[1], lists[0], lists[1])
        if call.number == ALIKE:
            return self.answer_alike(numbers[0], lists[0])
        if call.number == SQUEEZE:
            return [self.volume.squeeze()]
        if call.number == SUM:
            return self.answer_sum(numbers[0], lists[0])
        if call.number == STATE:
            return self.answer_state()
        raise UnknownCall(str(call.number))

    def answer_new(self, shut, salt, key):
        if not 0 <= shut <= 1:
            return [OUT_OF_RANGE]
        self.volume = Volume(shut, salt, key)
        return [0]

    def answer_put(self, numbers, name, body):
        kind = numbers[0]
        if not (0 <= kind <= 255 and is_name_length(numbers[1]) and 0 <= numbers[2] <= MOST_BODY_BYTES):
            return [OUT_OF_RANGE]
        return [self.volume.put(kind, name, body)]

    def answer_drop(self, name_length, name):
        if not is_name_length(name_length):
            return [OUT_OF_RANGE]
        return [self.volume.drop(name)]

    def answer_back(self, number):
        if not 0 <= number <= self.volume.history.entry_count():
            return [OUT_OF_RANGE]
        return [self.volume.back(number)]

    def answer_get(self, name_length, name):
        if not is_name_length(name_length):
            return [OUT_OF_RANGE]
        record = self.volume.history.record(name)
        if record is None:
            return [NO_RECORD]
        return [record.kind, record.number] + record.body

    def answer_names(self, begin, most):
        if begin < 0 or not 0 <= most <= MOST_NAMES:
            return [OUT_OF_RANGE]
        records = self.volume.history.records()
        answer = [len(records)]
        for record in records[begin:begin + most]:
            answer.extend([record.kind, record.number, len(record.body), len(record.name)])
            answer.extend(record.name)
        return answer

    def answer_version(self, place, name_length, name):
        if place < 0 or not is_name_length(name_length):
            return [OUT_OF_RANGE]
        versions = self.volume.history.versions(name)
        if place >= len(versions):
            return [NO_RECORD]
        version = versions[place]
        return [len(versions), version.kind, version.number] + version.body

    def answer_bytes(self, begin, most):
        if begin < 0 or not 0 <= most <= MOST_SHOWN_BYTES:
            return [OUT_OF_RANGE]
        content = self.volume.content
        return [len(content)] + content[begin:begin + most]

    def answer_read(self, shut, length, key, data):
        if not (0 <= shut <= 1 and 0 <= length <= MOST_BOOK_BYTES):
            return [OUT_OF_RANGE]
        if not begins_as_head(data, shut):
            return [NO_HEAD]
        volume = Volume(shut, salt_of(data), key)
        if volume.content != data[:HEAD_BYTES]:
            return [WRONG_HEAD_SUM]
        why = take_entries(volume, data)
        self.volume = volume
        return [volume.history.entry_count(), len(volume.content), why]

    def answer_alike(self, length, data):
        if not 0 <= length <= MOST_BOOK_BYTES:
            return [OUT_OF_RANGE]
        common = common_length(self.volume.content, data)
        return [common, self.volume.entries_within(common)]

    def answer_sum(self, length, data):
        if not 0 <= length <= MOST_SUMMED_BYTES:
            return [OUT_OF_RANGE]
        return [0] + sum_of(data)

    def answer_state(self):
        volume = self.volume
        history = volume.history
        return [0, len(volume.content), history.entry_count(), len(history.standing)] + volume.last_sum()
