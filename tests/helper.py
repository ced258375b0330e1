"""Writes calls as the interface wants them, and takes answers apart."""

from keptbook.book import answers

SALT = list(range(100, 116))
KEY = list(range(16))
LEAST = -2147483648
MOST = 2147483647


def as_bytes(text):
    return list(text.encode("latin-1")) if isinstance(text, str) else list(text)


def call(number, numbers, *lists):
    row = [number, len(numbers), *numbers, len(lists)]
    for one in lists:
        row += [len(one), *one]
    return row


def new(shut=0, salt=SALT, key=None):
    if key is None:
        key = KEY if shut == 1 else []
    return call(1, [shut], salt, key)


def put(kind, name, body=""):
    name = as_bytes(name)
    body = as_bytes(body)
    return call(2, [kind, len(name), len(body)], name, body)


def wrong_put(kind, name_length, body_length):
    return call(2, [kind, name_length, body_length], [], [])


def drop(name):
    return call(3, [len(name)], as_bytes(name))


def back(number):
    return call(4, [number])


def get(name):
    return call(5, [len(name)], as_bytes(name))


def names(begin=0, most=4096):
    return call(6, [begin, most])


def version(place, name):
    return call(7, [place, len(name)], as_bytes(name))


def joined(calls):
    return [number for one in calls for number in one]


def taken_apart(answered):
    parts = []
    place = 0
    while place < len(answered):
        end = place + 1 + answered[place]
        parts.append(answered[place + 1:end])
        place = end
    return parts


def ask(*calls):
    return taken_apart(answers(joined(calls)))


def last(*calls):
    return ask(*calls)[-1]


def listed(*records):
    """What names answers of (kind, number, body's length, name) each, behind the count."""
    answer = []
    for kind, number, length, name in records:
        answer += [kind, number, length, len(name), *as_bytes(name)]
    return answer
