"""The bytes of a book's head and of its entries."""

from keptbook.cipher import BLOCK_BYTES, shut_from
from keptbook.digest import sum_of

SALT_BEGIN = 8
SALT_END = 24
HEAD_BYTES = 44
# An entry's length and number, which are never shut.
FRONT_BYTES = 8
SUM_BYTES = 20
PUT = 1
DROP = 2
BACK = 3
BACK_BYTES = 5


def low_first(number, count):
    return [(number >> (8 * place)) & 255 for place in range(count)]


def from_low_first(data):
    number = 0
    for byte in reversed(data):
        number = number * 256 + byte
    return number


def head_front(shut):
    return [66, 79, 79, 75, 1, shut, 0, 0]


def head_bytes(shut, salt, key):
    front = head_front(shut) + salt
    return front + sum_of(front + key)


def begins_as_head(data, shut):
    return len(data) >= HEAD_BYTES and data[:SALT_BEGIN] == head_front(shut)


def salt_of(head):
    return head[SALT_BEGIN:SALT_END]


def put_text(kind, name, body):
    return [PUT, kind, len(name)] + name + body


def drop_text(name):
    return [DROP, len(name)] + name


def back_text(number):
    return [BACK] + low_first(number, 4)


def blocks_length(plain_length):
    return (plain_length + BLOCK_BYTES - 1) // BLOCK_BYTES * BLOCK_BYTES


def entry_length(plain_length):
    return FRONT_BYTES + blocks_length(plain_length) + SUM_BYTES


# schedule: the book's key spread out, None if the book is not shut.
def entry_bytes(number, plain, sum_before, schedule):
    text = plain + [0] * (blocks_length(len(plain)) - len(plain))
    if schedule is not None:
        text = shut_from(sum_before[:BLOCK_BYTES], text, schedule)
    entry = low_first(len(plain), 4) + low_first(number, 4) + text
    return entry + sum_of(sum_before + entry)
