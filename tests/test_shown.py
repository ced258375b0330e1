"""Points 8, 10, 12 and 13: bytes, alike, sum, state."""

import hashlib
import unittest

from tests.helper import (
    KEY, LEAST, MOST, SALT, SAMPLE, Apart, alike, as_bytes, as_call, ask, back, call, drop, get, last, names, new, put,
    put_plain, read, sha, show, squeeze, state, summed)


def sample_calls(shut):
    return [new(shut), *[as_call(plain) for plain in SAMPLE]]


class BytesTest(unittest.TestCase):
    def test_head(self):
        for shut in (0, 1):
            head = Apart(shut).content
            self.assertEqual(len(head), 44)
            self.assertEqual(last(new(shut), show()), [44, *head])
        other = [k * 3 for k in range(16)]
        self.assertEqual(last(new(1, other, KEY[::-1]), show()), [44, *Apart(1, other, KEY[::-1]).content])

    def test_head_against_written_bytes(self):
        head = "424f4f4b010000006465666768696a6b6c6d6e6f7071727347905019f5db1417b311bd8bae98d3528ebe2bab"
        self.assertEqual(last(new(0), show(0, 44)), [44, *bytes.fromhex(head)])
        head = "424f4f4b010100006465666768696a6b6c6d6e6f707172738a2f2678218ee13e097c39987bcaf56a998c7630"
        self.assertEqual(last(new(1), show(0, 44)), [44, *bytes.fromhex(head)])

    def test_entry_against_written_bytes(self):
        calls = [put(7, "ab", "hello world, this is a body"), show(44, 60)]
        entry = ("2000000001000000010702616268656c6c6f20776f726c642c2074686973206973206120626f6479"
                 "fd51ee0a343674b40b1f546088a1bb59f98e4952")
        self.assertEqual(last(new(0), *calls), [104, *bytes.fromhex(entry)])
        entry = ("2000000001000000d971791f9febf59fa2cfe2b18ced426437c11c917849837d93f1b4151b4e66d1"
                 "3677b7e24f2a3f71dea20406520cffef4afae1e8")
        self.assertEqual(last(new(1), *calls), [104, *bytes.fromhex(entry)])

    def test_every_entry_of_the_sample(self):
        for shut in (0, 1):
            apart = Apart(shut).add(*SAMPLE)
            got = ask(new(shut), *[row for plain in SAMPLE for row in (as_call(plain), show())])
            for count, part in enumerate(got[2::2], start=1):
                end = apart.ends[count]
                self.assertEqual(part, [end, *apart.content[:end]], (shut, count))

    def test_plain_texts_round_the_blocks(self):
        for shut in (0, 1):
            for length in range(34):
                apart = Apart(shut).add(put_plain(5, "n", [1] * length))
                self.assertEqual(last(new(shut), put(5, "n", [1] * length), show()),
                                 [len(apart.content), *apart.content], (shut, length))

    def test_part_of_them(self):
        content = Apart().add(put_plain(1, "a")).content
        self.assertEqual(len(content), 88)
        for begin in (0, 1, 43, 44, 87, 88, 89, 1000, MOST):
            for most in (0, 1, 2, 44, 87, 88, 89, 65536):
                self.assertEqual(last(new(), put(1, "a"), show(begin, most)),
                                 [88, *content[begin:][:most]], (begin, most))

    def test_most_bytes(self):
        body = [k % 255 for k in range(65536)]
        content = Apart().add(put_plain(1, "a", body)).content
        got = ask(new(), put(1, "a", body), show(0, 65536), show(44, 65536), show(65536, 65536))
        self.assertEqual(got[2:], [[65624, *content[:65536]], [65624, *content[44:65580]], [65624, *content[65536:]]])

    def test_out_of_range_leaves_the_book(self):
        wrong = ((-1, 0), (-1, 1), (LEAST, 1), (0, -1), (0, 65537), (0, LEAST), (0, MOST), (-1, 65537), (MOST, 65537))
        for begin, most in wrong:
            got = ask(new(), put(1, "a"), show(), show(begin, most), show())
            self.assertEqual(got[3], [-8], (begin, most))
            self.assertEqual(got[4], got[2])

    def test_refused_calls_leave_the_bytes(self):
        wrong = [new(2), call(2, [256, 1, 0], [], []), drop("b"), call(3, [0], []), back(2), back(-1), get("b"),
                 names(-1, 0), read([]), call(9, [2, 0], [], []), call(10, [-1], []), call(12, [65537], [])]
        rows = [row for one in wrong for row in (one, show(), state())]
        got = ask(new(1), put(1, "a", "x"), show(), state(), *rows)
        for place in range(len(wrong)):
            part = got[4 + 3 * place:7 + 3 * place]
            self.assertLess(part[0][0], 0)
            self.assertEqual(len(part[0]), 1)
            self.assertEqual(part[1:], got[2:4], place)


class AlikeTest(unittest.TestCase):
    def test_no_bytes(self):
        for shut in (0, 1):
            self.assertEqual(last(new(shut), alike([])), [0, 0])
            self.assertEqual(last(*sample_calls(shut), alike([])), [0, 0])

    def test_head_alone(self):
        head = Apart().content
        self.assertEqual(ask(new(), alike(head), alike(head + [0] * 100), alike(head[:43]), alike(head[:1]))[1:],
                         [[44, 0], [44, 0], [43, 0], [1, 0]])

    def test_own_bytes_cut_off_at_every_place(self):
        for shut in (0, 1):
            apart = Apart(shut).add(*SAMPLE)
            for begin in range(0, len(apart.content) + 1, 40):
                lengths = range(begin, min(begin + 40, len(apart.content) + 1))
                got = ask(*sample_calls(shut), *[alike(apart.content[:length]) for length in lengths])
                for length, part in zip(lengths, got[13:]):
                    whole = sum(1 for end in apart.ends[1:] if end <= length)
                    self.assertEqual(part, [length, whole], (shut, length))

    def test_own_bytes_with_more_behind(self):
        for shut in (0, 1):
            apart = Apart(shut).add(*SAMPLE)
            content = apart.content
            longer = content + apart.entry(put_plain(1, "more"))
            got = ask(*sample_calls(shut), alike(content), alike(content + [0]), alike(longer))
            self.assertEqual(got[13:], [[len(content), 12]] * 3)

    def test_one_byte_changed_at_every_place(self):
        apart = Apart(1).add(*SAMPLE[:4])
        for place in range(len(apart.content)):
            data = list(apart.content)
            data[place] ^= 1 << place % 8
            whole = sum(1 for end in apart.ends[1:] if end <= place)
            self.assertEqual(last(*sample_calls(1)[:5], alike(data)), [place, whole], place)

    def test_what_is_alike_behind_a_change_does_not_count(self):
        head = Apart().content
        self.assertEqual(last(new(), alike([0] + head[1:])), [0, 0])

    def test_other_books(self):
        one, other = Apart().add(*SAMPLE[:2]), Apart().add(SAMPLE[0], put_plain(1, "q"))
        got = last(*sample_calls(0)[:3], alike(other.content))
        self.assertEqual(got[1], 1)
        self.assertTrue(one.ends[1] <= got[0] < one.ends[2])
        self.assertEqual(last(new(0), alike(Apart(1).content)), [5, 0])
        self.assertEqual(last(new(0), alike(Apart(0, SALT[:3] + [0] * 13).content)), [11, 0])

    def test_book_that_was_read_or_squeezed(self):
        apart = Apart(1).add(*SAMPLE)
        content = apart.content
        cut = content[:apart.ends[5] + 30]
        got = ask(new(), read(cut, 1), alike(content), alike(cut), squeeze(), alike(content))
        self.assertEqual(got[1:4], [[5, apart.ends[5], 1], [apart.ends[5], 5], [apart.ends[5], 5]])
        self.assertEqual(got[5][1], 0)

    def test_length_out_of_range_leaves_the_book(self):
        for length in (-1, 1048577, LEAST, MOST):
            got = ask(new(), put(1, "a"), state(), call(10, [length], []), state())
            self.assertEqual(got[3], [-8], length)
            self.assertEqual(got[4], got[2])

    def test_most_bytes(self):
        # More than the interface hands in, since the words grant it.
        head = Apart().content
        self.assertEqual(last(new(), alike(head + [1] * (1048576 - 44))), [44, 0])


class SumTest(unittest.TestCase):
    def test_example_of_the_document(self):
        self.assertEqual(last(new(), summed("abc")),
                         [0, *bytes.fromhex("A9993E364706816ABA3E25717850C26C9CD0D89D")])

    def test_no_bytes(self):
        self.assertEqual(last(new(1), summed([])), [0, *bytes.fromhex("da39a3ee5e6b4b0d3255bfef95601890afd80709")])

    def test_lengths_round_the_blocks(self):
        for length in (1, 54, 55, 56, 57, 63, 64, 65, 118, 119, 120, 121, 127, 128, 129, 1000):
            for data in ([0] * length, [255] * length, [(5 * k + length) % 256 for k in range(length)]):
                self.assertEqual(last(new(), summed(data)), [0, *hashlib.sha1(bytes(data)).digest()], length)

    def test_most_bytes(self):
        data = [k % 251 for k in range(65536)]
        self.assertEqual(last(new(), summed(data)), [0, *sha(data)])

    def test_book_stays(self):
        got = ask(new(1), put(1, "a"), state(), show(), summed("abc"), state(), show())
        self.assertEqual(got[5:], got[2:4])

    def test_length_out_of_range(self):
        for length in (-1, 65537, LEAST, MOST):
            got = ask(new(), put(1, "a"), state(), call(12, [length], []), state())
            self.assertEqual(got[3], [-8], length)
            self.assertEqual(got[4], got[2])


class StateTest(unittest.TestCase):
    def test_new_book(self):
        for shut in (0, 1):
            head = Apart(shut).content
            self.assertEqual(last(new(shut), state()), [0, 44, 0, 0, *head[24:]])

    def test_after_each_entry(self):
        records = [1, 2, 1, 1, 2, 2, 1, 2, 3, 0, 1, 3]
        for shut in (0, 1):
            apart = Apart(shut).add(*SAMPLE)
            got = ask(new(shut), *[row for plain in SAMPLE for row in (as_call(plain), state())])
            for count, part in enumerate(got[2::2], start=1):
                end = apart.ends[count]
                self.assertEqual(part, [0, end, count, records[count - 1], *apart.content[end - 20:end]],
                                 (shut, count))

    def test_put_again_is_one_record(self):
        self.assertEqual(last(new(), put(1, "a"), put(2, "a"), state())[:4], [0, 132, 2, 1])

    def test_new_again(self):
        first = ask(new(1), state())[1]
        self.assertEqual(last(new(0), put(1, as_bytes("a")), new(1), state()), first)


if __name__ == "__main__":
    unittest.main()
