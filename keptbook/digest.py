"""The sum of bytes: SHA-1, as FIPS 180-4 tells it."""

BLOCK_BYTES = 64
WORD_MASK = 0xFFFFFFFF
FIRST_WORDS = (0x67452301, 0xEFCDAB89, 0x98BADCFE, 0x10325476, 0xC3D2E1F0)


def sum_of(data):
    padded = data + tail_of(len(data))
    words = list(FIRST_WORDS)
    for begin in range(0, len(padded), BLOCK_BYTES):
        words = stir(words, spread(padded[begin:begin + BLOCK_BYTES]))
    answer = []
    for word in words:
        answer.extend(high_first(word, 4))
    return answer


def tail_of(length):
    # The 1 bit and the 8 bytes of the length always have to fit, so a nearly full block takes one more.
    zeros = (BLOCK_BYTES - 9 - length) % BLOCK_BYTES
    return [0x80] + [0] * zeros + high_first(length * 8, 8)


def high_first(number, count):
    return [(number >> (8 * place)) & 255 for place in range(count - 1, -1, -1)]


def turned_left(word, bits):
    return ((word << bits) | (word >> (32 - bits))) & WORD_MASK


def spread(block):
    words = []
    for k in range(0, BLOCK_BYTES, 4):
        words.append((block[k] << 24) | (block[k + 1] << 16) | (block[k + 2] << 8) | block[k + 3])
    for k in range(16, 80):
        words.append(turned_left(words[k - 3] ^ words[k - 8] ^ words[k - 14] ^ words[k - 16], 1))
    return words


def blended(step, b, c, d):
    if step < 20:
        return ((b & c) | ((b ^ WORD_MASK) & d)) + 0x5A827999
    if step < 40:
        return (b ^ c ^ d) + 0x6ED9EBA1
    if step < 60:
        return ((b & c) | (b & d) | (c & d)) + 0x8F1BBCDC
    return (b ^ c ^ d) + 0xCA62C1D6


def stir(words, schedule):
    a = words[0]
    b = words[1]
    c = words[2]
    d = words[3]
    e = words[4]
    for step, word in enumerate(schedule):
        fresh = (turned_left(a, 5) + blended(step, b, c, d) + e + word) & WORD_MASK
        e = d
        d = c
        c = turned_left(b, 30)
        b = a
        a = fresh
    stirred = [a, b, c, d, e]
    return [(old + new) & WORD_MASK for old, new in zip(words, stirred)]
