"""The sections "Bytes" and "A book's bytes"."""

import hashlib
import unittest

from keptbook.cipher import SWAPPED, SWAPPED_BACK, open_block, open_from, shut_block, shut_from, spread_key
from keptbook.digest import sum_of
from keptbook.layout import from_low_first, low_first
from keptbook.volume import Volume
from tests.helper import BOX, KEY, SALT, Apart, as_bytes, back_plain, drop_plain, put_plain, shut_apart


def from_hex(text):
    return list(bytes.fromhex(text))


class SumTest(unittest.TestCase):
    def test_example_of_the_document(self):
        self.assertEqual(
            sum_of(as_bytes("abc")),
            from_hex("A9 99 3E 36 47 06 81 6A BA 3E 25 71 78 50 C2 6C 9C D0 D8 9D"))

    def test_every_length_round_the_blocks(self):
        for length in range(200):
            data = [(7 * k + length) % 256 for k in range(length)]
            self.assertEqual(sum_of(data), list(hashlib.sha1(bytes(data)).digest()), length)

    def test_long_data(self):
        data = [k * k % 251 for k in range(65603)]
        self.assertEqual(sum_of(data), list(hashlib.sha1(bytes(data)).digest()))

    def test_data_stays_as_it_was(self):
        data = [1, 2, 3]
        sum_of(data)
        self.assertEqual(data, [1, 2, 3])


class ShutTest(unittest.TestCase):
    def test_example_of_the_document(self):
        block = from_hex("00112233445566778899AABBCCDDEEFF")
        self.assertEqual(
            shut_block(block, spread_key(list(range(16)))),
            from_hex("69 C4 E0 D8 6A 7B 04 30 D8 CD B7 80 70 B4 C5 5A"))

    def test_another_key(self):
        schedule = spread_key(from_hex("2b7e151628aed2a6abf7158809cf4f3c"))
        self.assertEqual(
            shut_block(from_hex("3243f6a8885a308d313198a2e0370734"), schedule),
            from_hex("3925841d02dc09fbdc118597196a0b32"))

    def test_every_swapped_byte(self):
        self.assertEqual(list(SWAPPED), BOX)

    def test_every_byte_swapped_back(self):
        self.assertEqual([SWAPPED_BACK[byte] for byte in BOX], list(range(256)))

    def test_blocks_from_a_block(self):
        # NIST SP 800-38A, F.2.1.
        schedule = spread_key(from_hex("2b7e151628aed2a6abf7158809cf4f3c"))
        text = from_hex(
            "6bc1bee22e409f96e93d7e117393172aae2d8a571e03ac9c9eb76fac45af8e51"
            "30c81c46a35ce411e5fbc1191a0a52eff69f2445df4f9b17ad2b417be66c3710")
        self.assertEqual(shut_from(list(range(16)), text, schedule), from_hex(
            "7649abac8119b246cee98e9b12e9197d5086cb9b507219ee95db113a917678b2"
            "73bed6b8e3c1743b7116e69e222295163ff1caa1681fac09120eca307586e1a7"))

    def test_blocks_shut_apart(self):
        for turn in range(20):
            key = [(turn * 31 + k * k) % 256 for k in range(16)]
            text = [(turn + 7 * k + k * k // 5) % 256 for k in range(16 * turn)]
            self.assertEqual(shut_from(key[::-1], text, spread_key(key)), shut_apart(key[::-1], text, key), turn)

    def test_no_blocks(self):
        self.assertEqual(shut_from([0] * 16, [], spread_key(KEY)), [])


class OpenTest(unittest.TestCase):
    def test_example_of_the_document(self):
        block = from_hex("69 C4 E0 D8 6A 7B 04 30 D8 CD B7 80 70 B4 C5 5A")
        self.assertEqual(open_block(block, spread_key(KEY)), from_hex("00112233445566778899AABBCCDDEEFF"))

    def test_blocks_from_a_block(self):
        # NIST SP 800-38A, F.2.2.
        schedule = spread_key(from_hex("2b7e151628aed2a6abf7158809cf4f3c"))
        text = from_hex(
            "7649abac8119b246cee98e9b12e9197d5086cb9b507219ee95db113a917678b2"
            "73bed6b8e3c1743b7116e69e222295163ff1caa1681fac09120eca307586e1a7")
        self.assertEqual(open_from(list(range(16)), text, schedule), from_hex(
            "6bc1bee22e409f96e93d7e117393172aae2d8a571e03ac9c9eb76fac45af8e51"
            "30c81c46a35ce411e5fbc1191a0a52eff69f2445df4f9b17ad2b417be66c3710"))

    def test_blocks_shut_apart(self):
        for turn in range(20):
            key = [(turn * 131 + 3 * k * k) % 256 for k in range(16)]
            text = [(turn + 11 * k + k * k // 3) % 256 for k in range(16 * turn)]
            self.assertEqual(open_from(key[::-1], shut_apart(key[::-1], text, key), spread_key(key)), text, turn)

    def test_no_blocks(self):
        self.assertEqual(open_from([0] * 16, [], spread_key(KEY)), [])


class LowFirstTest(unittest.TestCase):
    def test_bytes_of_a_number(self):
        self.assertEqual(low_first(0, 4), [0, 0, 0, 0])
        self.assertEqual(low_first(0x01020304, 4), [4, 3, 2, 1])
        self.assertEqual(low_first(65603, 4), [0x43, 0, 1, 0])

    def test_number_of_bytes(self):
        self.assertEqual(from_low_first([0, 0, 0, 0]), 0)
        self.assertEqual(from_low_first([4, 3, 2, 1]), 0x01020304)
        self.assertEqual(from_low_first([0x43, 0, 1, 0]), 65603)
        self.assertEqual(from_low_first([255, 255, 255, 255]), 4294967295)


class VolumeBytesTest(unittest.TestCase):
    """The rows were made apart from the program, by another SHA-1 and another AES."""

    OPEN_ROWS = (
        "424f4f4b010000006465666768696a6b6c6d6e6f7071727347905019f5db1417b311bd8bae98d3528ebe2bab",
        "2000000001000000010702616268656c6c6f20776f726c642c2074686973206973206120626f6479"
        "fd51ee0a343674b40b1f546088a1bb59f98e4952",
        "100000000200000001ff017a30313233343536373839616275dd8e4157442712d9878ebc6f9b9a7844922429",
        "0400000003000000020261620000000000000000000000006b1f4bcf52a70ca5a0d4333332c34ca1c9677731",
        "05000000040000000301000000000000000000000000000052d36823cd9d3e4683239753edfee4305795a3b6",
    )
    SHUT_ROWS = (
        "424f4f4b010100006465666768696a6b6c6d6e6f707172738a2f2678218ee13e097c39987bcaf56a998c7630",
        "2000000001000000d971791f9febf59fa2cfe2b18ced426437c11c917849837d93f1b4151b4e66d1"
        "3677b7e24f2a3f71dea20406520cffef4afae1e8",
        "1000000002000000437978be9d27c8ffeed59ed52e83114c4e0919730e63cec37777f1afc9e36b6923101b82",
        "040000000300000082f85c35973acaaab8b7f4022e7020e87b1a319e500aef6a79c7d17e4597b66efcf6a79a",
        "0500000004000000b82421c87793e0fdfb6480564dde9cc38a3f4c29fe83dda9f428c703d93bb006a347e8e8",
    )

    def grown(self, shut, key):
        volume = Volume(shut, SALT, key)
        contents = [list(volume.content)]
        volume.put(7, as_bytes("ab"), as_bytes("hello world, this is a body"))
        contents.append(list(volume.content))
        volume.put(255, as_bytes("z"), as_bytes("0123456789ab"))
        contents.append(list(volume.content))
        volume.drop(as_bytes("ab"))
        contents.append(list(volume.content))
        volume.back(1)
        contents.append(list(volume.content))
        return contents

    def check(self, shut, key, rows):
        for count, content in enumerate(self.grown(shut, key), start=1):
            self.assertEqual(bytes(content).hex(), "".join(rows[:count]), count)

    def test_book_that_is_not_shut(self):
        self.check(0, [], self.OPEN_ROWS)

    def test_shut_book(self):
        self.check(1, KEY, self.SHUT_ROWS)

    def test_book_made_apart_is_the_same(self):
        for shut, rows in ((0, self.OPEN_ROWS), (1, self.SHUT_ROWS)):
            apart = Apart(shut).add(
                put_plain(7, "ab", "hello world, this is a body"), put_plain(255, "z", "0123456789ab"),
                drop_plain("ab"), back_plain(1))
            self.assertEqual(bytes(apart.content).hex(), "".join(rows))

    def test_refused_call_writes_nothing(self):
        volume = Volume(0, SALT, [])
        before = list(volume.content)
        self.assertEqual(volume.drop(as_bytes("a")), -2)
        self.assertEqual(volume.content, before)


if __name__ == "__main__":
    unittest.main()
