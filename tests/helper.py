"""Writes calls as the interface wants them, takes answers apart, and makes a book's bytes apart from the program."""

import hashlib

from keptbook.book import answers

SALT = list(range(100, 116))
KEY = list(range(16))
LEAST = -2147483648
MOST = 2147483647


def as_bytes(text):
    return list(text.encode("latin-1")) if isinstance(text, str) else list(text)


def call(number, numbers, *lists):
    row = [number, len(numbers), *numbers, len(lists)]
    for one in lists:
        row += [len(one), *one]
    return row


def key_for(shut, key):
    if key is None:
        return KEY if shut == 1 else []
    return list(key)


def new(shut=0, salt=SALT, key=None):
    return call(1, [shut], salt, key_for(shut, key))


def put(kind, name, body=""):
    name = as_bytes(name)
    body = as_bytes(body)
    return call(2, [kind, len(name), len(body)], name, body)


def wrong_put(kind, name_length, body_length):
    return call(2, [kind, name_length, body_length], [], [])


def drop(name):
    return call(3, [len(name)], as_bytes(name))


def back(number):
    return call(4, [number])


def get(name):
    return call(5, [len(name)], as_bytes(name))


def names(begin=0, most=4096):
    return call(6, [begin, most])


def version(place, name):
    return call(7, [place, len(name)], as_bytes(name))


def show(begin=0, most=65536):
    """The call bytes."""
    return call(8, [begin, most])


def read(data, shut=0, key=None):
    return call(9, [shut, len(data)], key_for(shut, key), as_bytes(data))


def alike(data):
    return call(10, [len(data)], as_bytes(data))


def squeeze():
    return call(11, [])


def summed(data):
    """The call sum."""
    return call(12, [len(data)], as_bytes(data))


def state():
    return call(13, [])


def joined(calls):
    return [number for one in calls for number in one]


def taken_apart(answered):
    parts = []
    place = 0
    while place < len(answered):
        end = place + 1 + answered[place]
        parts.append(answered[place + 1:end])
        place = end
    return parts


def answers_of(calls):
    return taken_apart(answers(joined(calls)))


def ask(*calls):
    return answers_of(calls)


def last(*calls):
    return ask(*calls)[-1]


def listed(*records):
    """What names answers of (kind, number, body's length, name) each, behind the count."""
    answer = []
    for kind, number, length, name in records:
        answer += [kind, number, length, len(name), *as_bytes(name)]
    return answer


def is_good_new(one):
    return one[0] == 1 and one[2] in (0, 1)


def ask_reading(*calls):
    """As ask, but before each call the book is read from the bytes that it had: the answers are to be the same."""
    got = []
    shown = [show(begin) for begin in range(0, 1048577, 65536)]
    for one in calls:
        if is_good_new(one):
            shut, key = one[2], one[22:]
            ahead = []
        else:
            ahead = [new(1, [9] * 16, [8] * 16), put(1, "other", "book"), read(content, shut, key)]
        parts = answers_of([*ahead, one, *shown])
        if ahead:
            assert parts[2][1:] == [len(content), 0], parts[2]
        got.append(parts[len(ahead)])
        content = [byte for part in parts[len(ahead) + 1:] for byte in part[1:]]
    return got


def ask_squeezing(*calls):
    """As ask, but each new book is one that had records, went back to its head and was squeezed."""
    rows, places = [], []
    for one in calls:
        places.append(len(rows))
        rows.append(one)
        if is_good_new(one):
            rows += [put(1, "a", "left"), put(2, "b", "behind"), drop("a"), back(0), squeeze()]
    parts = answers_of(rows)
    return [parts[place] for place in places]


def sha(data):
    return list(hashlib.sha1(bytes(data)).digest())


def low(number):
    return list(number.to_bytes(4, "little"))


def product(left, right):
    """Of two bytes, as FIPS 197 multiplies them."""
    answer = 0
    for bit in range(8):
        if right >> bit & 1:
            answer ^= left << bit
    for bit in range(14, 7, -1):
        if answer >> bit & 1:
            answer ^= 0x11B << (bit - 8)
    return answer


def swapped(byte):
    """FIPS 197, 5.1.1: the inverse, then the bits turned and added up."""
    inverse = next((one for one in range(256) if product(byte, one) == 1), 0)
    answer = 0x63
    for turn in range(5):
        answer ^= (inverse << turn | inverse >> (8 - turn)) & 255
    return answer


BOX = [swapped(byte) for byte in range(256)]
TIMES = {factor: [product(factor, byte) for byte in range(256)] for factor in (1, 2, 3)}


def round_keys(key):
    words = [list(key[k:k + 4]) for k in range(0, 16, 4)]
    constant = 1
    while len(words) < 44:
        word = list(words[-1])
        if len(words) % 4 == 0:
            word = [BOX[byte] for byte in word[1:] + word[:1]]
            word[0] ^= constant
            constant = product(constant, 2)
        words.append([a ^ b for a, b in zip(words[-4], word)])
    return [sum(words[k:k + 4], []) for k in range(0, 44, 4)]


def shut_apart(start, text, key):
    """The text of whole blocks, shut from the block start."""
    keys = round_keys(key)
    answer, before = [], start
    for begin in range(0, len(text), 16):
        block = [a ^ b ^ c for a, b, c in zip(text[begin:begin + 16], before, keys[0])]
        for turn in range(1, 11):
            block = [BOX[block[(4 * (column + row) + row) % 16]] for column in range(4) for row in range(4)]
            if turn < 10:
                block = [TIMES[2][block[4 * column + row]] ^ TIMES[3][block[4 * column + (row + 1) % 4]]
                         ^ block[4 * column + (row + 2) % 4] ^ block[4 * column + (row + 3) % 4]
                         for column in range(4) for row in range(4)]
            block = [a ^ b for a, b in zip(block, keys[turn])]
        answer += block
        before = block
    return answer


def put_plain(kind, name, body=""):
    return [1, kind, len(name), *as_bytes(name), *as_bytes(body)]


def drop_plain(name):
    return [2, len(name), *as_bytes(name)]


def back_plain(number):
    return [3, *low(number)]


class Apart:
    """A book's bytes, made apart from the program. An entry may also be made that isn't as told, with a right sum."""

    def __init__(self, shut=0, salt=SALT, key=None):
        self.shut = shut
        self.key = key_for(shut, key)
        front = [66, 79, 79, 75, 1, shut, 0, 0, *salt]
        self.content = front + sha(front + self.key)
        self.ends = [44]

    def entry(self, plain, number=None, length=None, behind=0):
        number = len(self.ends) if number is None else number
        length = len(plain) if length is None else length
        text = plain + [behind] * (-len(plain) % 16)
        if self.shut:
            text = shut_apart(self.content[-20:-4], text, self.key)
        row = low(length) + low(number) + text
        return row + sha(self.content[-20:] + row)

    def add(self, *plains):
        for plain in plains:
            self.content += self.entry(plain)
            self.ends.append(len(self.content))
        return self


# Puts, drops and backs, with plain texts that fill their blocks and such that don't.
SAMPLE = (
    put_plain(7, "ab", "hello world, this is a body"), put_plain(255, "z", "0123456789ab"), drop_plain("ab"),
    back_plain(1), put_plain(0, [0] * 64), put_plain(9, "ab", "second"), drop_plain("ab"), back_plain(6),
    put_plain(3, "z", [255] * 40), back_plain(0), put_plain(1, "only"), back_plain(9))


def as_call(plain):
    """The call that writes an entry of this plain text."""
    if plain[0] == 1:
        end = 3 + plain[2]
        return put(plain[1], plain[3:end], plain[end:])
    if plain[0] == 2:
        return drop(plain[2:])
    return back(int.from_bytes(plain[1:], "little"))


def all_questions():
    """What a book can be asked of the sample's records, and of all that it has."""
    rows = [names(), state(), show()]
    for name in ("ab", "z", [0] * 64, "only"):
        rows += [get(name), version(0, name), version(1, name), version(2, name)]
    return rows
