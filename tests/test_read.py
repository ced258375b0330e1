"""Point 9, read, and the paragraph behind point 13."""

import unittest

from tests.helper import (
    KEY, LEAST, MOST, SALT, SAMPLE, Apart, all_questions, alike, as_call, ask, back, back_plain, call, drop, drop_plain,
    get, last, listed, low, names, new, put, put_plain, read, show, squeeze, state, version)


def written(shut, count):
    """The calls that write the first so many entries of the sample."""
    return [new(shut), *[as_call(plain) for plain in SAMPLE[:count]]]


def blocks(length):
    return (length + 15) // 16 * 16


class RefusedTest(unittest.TestCase):
    def refused(self, answer, one):
        """The call is answered so, and the book, which is another than what is read, stays as it was."""
        for shut in (0, 1):
            rest = [*all_questions(), put(1, "on"), show()]
            before = [new(shut, [1] * 16), put(4, "ab", "first"), put(5, "ab", "then"), put(6, "z"), drop("z")]
            self.assertEqual(ask(*before, one, *rest)[5:], [[answer], *ask(*before, *rest)[5:]])

    def test_length_out_of_range(self):
        for length in (-1, 1048577, LEAST, MOST):
            self.refused(-8, call(9, [0, length], [], []))
            self.refused(-8, call(9, [1, length], KEY, []))

    def test_shut_out_of_range(self):
        content = Apart().add(*SAMPLE).content
        for shut in (-1, 2, LEAST, MOST):
            self.refused(-8, call(9, [shut, len(content)], [], content))
            self.refused(-8, call(9, [shut, 0], [], []))
            self.refused(-8, call(9, [shut, -1], [], []))

    def test_less_than_a_head(self):
        for shut in (0, 1):
            head = Apart(shut).content
            for length in range(44):
                self.assertEqual(last(new(), read(head[:length], shut)), [-3], length)
            for length in (0, 7, 8, 24, 43):
                self.refused(-3, read(head[:length], shut))

    def test_another_shut(self):
        for shut in (0, 1):
            self.refused(-3, read(Apart(shut).add(*SAMPLE).content, 1 - shut))

    def test_another_of_the_first_bytes(self):
        for shut in (0, 1):
            content = Apart(shut).add(*SAMPLE).content
            for place in range(8):
                for change in (1, 2, 128, 255):
                    data = list(content)
                    data[place] ^= change
                    self.assertEqual(last(new(), read(data, shut)), [-3], place)
                self.refused(-3, read(data, shut))

    def test_first_bytes_come_before_the_sum(self):
        data = Apart().content
        data[0] = 0
        data[43] ^= 1
        self.refused(-3, read(data))

    def test_another_salt_or_sum(self):
        for shut in (0, 1):
            content = Apart(shut).add(*SAMPLE).content
            for place in range(8, 44):
                data = list(content)
                data[place] ^= 1 << place % 8
                self.assertEqual(last(new(), read(data, shut)), [-5], place)
            self.refused(-5, read(data, shut))

    def test_another_key(self):
        content = Apart(1).add(*SAMPLE).content
        for place in range(16):
            key = list(KEY)
            key[place] ^= 1 << place % 8
            self.assertEqual(last(new(1), read(content, 1, key)), [-5], place)
        self.refused(-5, read(content, 1, key))

    def test_sum_without_the_key(self):
        data = Apart(1).content[:24] + Apart(1, SALT, []).content[24:]
        self.refused(-5, read(data, 1))


class TakenTest(unittest.TestCase):
    def same(self, shut, data, count, why):
        """So many entries of the sample are taken from data, and the book goes on as if they had been written."""
        rest = [*all_questions(), alike(data), back(count + 1), put(8, "ab", "on and on"), back(count // 2),
                *all_questions(), back(count + 1), drop("ab"), *all_questions(), squeeze(), *all_questions(),
                put(9, "last"), names(), state(), show()]
        got = ask(new(1 - shut), put(1, "other"), read(data, shut), *rest)
        wanted = ask(*written(shut, count), *rest)
        end = Apart(shut).add(*SAMPLE[:count]).ends[-1]
        self.assertEqual(got[2], [count, end, why])
        self.assertEqual(got[3:], wanted[count + 1:])

    def test_head_alone(self):
        for shut in (0, 1):
            self.assertEqual(ask(new(), put(1, "a"), read(Apart(shut).content, shut), names(), back(1))[2:],
                             [[0, 44, 0], [0], [-8]])
            self.same(shut, Apart(shut).content, 0, 0)

    def test_another_salt_and_key(self):
        salt, key = [255] * 16, KEY[::-1]
        for shut in (0, 1):
            apart = Apart(shut, salt, key if shut else []).add(put_plain(5, "a", "secret"))
            got = ask(new(), read(apart.content, shut, apart.key), get("a"), put(6, "b"), show())
            length = len(apart.content)
            apart.add(put_plain(6, "b"))
            self.assertEqual(got[1:], [[1, length, 0], [5, 1, *b"secret"], [2], [len(apart.content), *apart.content]])

    def test_own_bytes(self):
        for shut in (0, 1):
            own = last(*written(shut, 12), show())[1:]
            self.same(shut, own, 12, 0)

    def test_what_stands_after_a_read(self):
        for shut in (0, 1):
            content = Apart(shut).add(*SAMPLE).content
            got = ask(new(), read(content, shut), names(), get("z"), get("only"), version(0, "ab"), version(1, "ab"),
                      version(2, "ab"), version(0, "z"), version(0, "only"), back(11), get("only"), back(2),
                      version(0, "z"), drop("ab"), names(), put(6, "q"), state())
            zeros = (0, 5, 0, [0] * 64)
            self.assertEqual(got[2:11], [
                [3, *listed(zeros, (9, 6, 6, "ab"), (3, 9, 40, "z"))], [3, 9] + [255] * 40, [-2],
                [2, 9, 6, *b"second"], [2, 7, 1, *b"hello world, this is a body"], [-2], [1, 3, 9] + [255] * 40, [-2],
                [13]])
            self.assertEqual(got[11:17], [[1, 11], [14], [1, 255, 2, *b"0123456789ab"], [15],
                                          [1, *listed((255, 2, 12, "z"))], [16]])
            self.assertEqual(got[17][:4], [0, len(content) + 4 * 44, 16, 2])

    def test_cut_off_at_every_place(self):
        for shut in (0, 1):
            apart = Apart(shut).add(*SAMPLE)
            for length in range(44, len(apart.content) + 1):
                count = sum(1 for end in apart.ends[1:] if end <= length)
                end = apart.ends[count]
                why = 0 if end == length else 1
                got = ask(new(), read(apart.content[:length], shut), state(), show())
                self.assertEqual(got[1], [count, end, why], (shut, length))
                self.assertEqual(got[2][:3] + got[2][4:], [0, end, count, *apart.content[end - 20:end]])
                self.assertEqual(got[3], [end, *apart.content[:end]])

    def test_cut_off_and_gone_on(self):
        for shut in (0, 1):
            apart = Apart(shut).add(*SAMPLE)
            for count, end in enumerate(apart.ends):
                self.same(shut, apart.content[:end], count, 0)
                if count < 12:
                    for more in (1, 3, 4, 7, 8, 9, 27, 28, 43):
                        self.same(shut, apart.content[:end + more], count, 1)

    def changed(self, apart, place, change):
        """The bytes with one changed; how many entries are before it; why no further, by the document's words."""
        data = list(apart.content)
        data[place] ^= change
        count = sum(1 for end in apart.ends[1:] if end <= place)
        begin = apart.ends[count]
        length = int.from_bytes(bytes(data[begin:begin + 4]), "little")
        why = 2
        if length > 65603:
            why = 3
        elif begin + 8 + blocks(length) + 20 > len(data):
            why = 1
        return data, count, why

    def test_one_byte_changed_at_every_place(self):
        for shut in (0, 1):
            apart = Apart(shut).add(*SAMPLE)
            seen = []
            for place in range(44, len(apart.content)):
                for change in (1 << place % 8, 255):
                    data, count, why = self.changed(apart, place, change)
                    seen.append(why)
                    end = apart.ends[count]
                    got = ask(new(), read(data, shut), show(), names())
                    self.assertEqual(got[1:3], [[count, end, why], [end, *apart.content[:end]]], (shut, place))
            self.assertEqual(set(seen), {1, 2, 3})

    def test_one_byte_changed_and_gone_on(self):
        for shut in (0, 1):
            apart = Apart(shut).add(*SAMPLE)
            for place in range(44, len(apart.content), 23):
                data, count, why = self.changed(apart, place, 16)
                self.same(shut, data, count, why)

    def test_read_behind_a_read(self):
        one, other = Apart(0).add(*SAMPLE[:3]), Apart(1).add(*SAMPLE[:5])
        got = ask(new(), read(one.content), read(other.content, 1), show(), read(one.content[:-1]), names(), state())
        self.assertEqual(got[1:4], [[3, one.ends[3], 0], [5, other.ends[5], 0], [other.ends[5], *other.content]])
        self.assertEqual(got[4], [2, one.ends[2], 1])
        self.assertEqual(got[5], [2, *listed((7, 1, 27, "ab"), (255, 2, 12, "z"))])

    def test_new_behind_a_read(self):
        content = Apart(1).add(*SAMPLE).content
        self.assertEqual(ask(new(), read(content, 1), new(0), *all_questions())[3:], ask(new(0), *all_questions())[1:])

    def test_state_after_each_why(self):
        for shut in (0, 1):
            apart = Apart(shut).add(*SAMPLE[:2])
            good, end = apart.content, apart.ends[2]
            spoiled = apart.entry(drop_plain("ab"))
            spoiled[-1] ^= 1
            for why, data in ((0, good), (1, good + [0]), (2, good + spoiled), (3, good + apart.entry(back_plain(3)))):
                got = ask(new(), read(data, shut), state())
                self.assertEqual(got[1:], [[2, end, why], [0, end, 2, 2, *good[-20:]]], (shut, why))


class NotAsToldTest(unittest.TestCase):
    """Behind two good entries, which put "ab" and "z", comes one that isn't as told; its sum is right."""

    def stopped(self, rows, why=3):
        for shut in (0, 1):
            for make in rows:
                apart = Apart(shut).add(*SAMPLE[:2])
                end = apart.ends[2]
                bad = make(apart)
                data = apart.content + bad + Apart(shut).entry(put_plain(1, "behind"))
                rest = [names(), version(0, "ab"), version(1, "ab"), show(), back(3), put(1, "a"), state()]
                got = ask(new(), read(data, shut), *rest)
                self.assertEqual(got[1], [2, end, why], (shut, bad))
                self.assertEqual(got[2:], ask(*written(shut, 2), *rest)[3:])

    def stopped_by_plains(self, *plains):
        self.stopped([lambda apart, plain=plain: apart.entry(plain) for plain in plains])

    def test_entries_that_are_as_told(self):
        # What the other tests change is taken unchanged.
        for shut in (0, 1):
            for plain in (put_plain(5, "q", "body"), put_plain(0, "q"), put_plain(255, [7] * 64), put_plain(1, [0]),
                          put_plain(1, "ab", [9] * 13), drop_plain("z"), back_plain(0), back_plain(1), back_plain(2)):
                apart = Apart(shut).add(*SAMPLE[:2], plain)
                self.assertEqual(last(new(), read(apart.content, shut)), [3, apart.ends[3], 0], plain)

    def test_number(self):
        self.stopped([lambda apart, number=number: apart.entry(put_plain(5, "q"), number=number)
                      for number in (0, 1, 2, 4, 3 + 256, 3 + (1 << 16), 3 + (1 << 24), 4294967295)])

    def test_length_above_the_most(self):
        for length in (65604, 65605, 65616, 1 << 24, 4294967295):
            for plain in (put_plain(5, "q"), []):
                self.stopped([lambda apart: apart.entry(plain, length=length)])

    def test_length_above_the_most_comes_before_too_few_bytes_and_a_wrong_sum(self):
        for shut in (0, 1):
            good = Apart(shut).add(*SAMPLE[:2])
            for behind in (0, 1, 19, 20, 21, 100):
                data = good.content + low(65604) + low(3) + [1] * behind
                self.assertEqual(last(new(), read(data, shut)), [2, good.ends[2], 3], behind)

    def test_less_than_eight_bytes_are_too_few(self):
        for shut in (0, 1):
            good = Apart(shut).add(*SAMPLE[:2])
            for front in (low(65604) + low(3), low(4294967295) + low(3), low(5) + low(9)):
                for length in range(1, 8):
                    data = good.content + front[:length]
                    self.assertEqual(last(new(), read(data, shut)), [2, good.ends[2], 1], length)

    def test_most_length_is_too_few_bytes_first(self):
        for shut in (0, 1):
            good = Apart(shut).add(*SAMPLE[:2])
            for behind in (0, 1, 20, 100):
                data = good.content + low(65603) + low(9) + [1] * behind
                self.assertEqual(last(new(), read(data, shut)), [2, good.ends[2], 1], behind)

    def test_wrong_sum_comes_before_the_rest(self):
        def spoiled(entry):
            return entry[:-1] + [entry[-1] ^ 1]
        self.stopped([lambda apart: spoiled(apart.entry(put_plain(5, "q"), number=4)),
                      lambda apart: spoiled(apart.entry([4, 0])),
                      lambda apart: spoiled(apart.entry([])),
                      lambda apart: spoiled(apart.entry(drop_plain("q")))], why=2)

    def test_sum_of_what_is_before_another_entry(self):
        # Right behind the head, but not here.
        self.stopped([lambda apart: Apart(apart.shut).entry(put_plain(5, "q"), number=3)], why=2)

    def test_length_of_nought(self):
        self.stopped_by_plains([])

    def test_too_short_for_its_kind_of_entry(self):
        self.stopped_by_plains([1], [1, 5], [1, 5, 1], [1, 5, 64], [2], [2, 1], [3], [3, 0], [3, 0, 0])

    def test_length_that_ends_within_the_name(self):
        self.stopped([lambda apart: apart.entry(put_plain(5, "qr"), length=4),
                      lambda apart: apart.entry(drop_plain("ab"), length=3),
                      lambda apart: apart.entry(back_plain(0), length=4)])

    def test_not_nought_behind_the_plain_text(self):
        self.stopped([lambda apart: apart.entry(put_plain(5, "q"), behind=1),
                      lambda apart: apart.entry(drop_plain("ab"), behind=255),
                      lambda apart: apart.entry(back_plain(1), behind=128),
                      lambda apart: apart.entry(put_plain(5, "q", [0] * 11 + [1]), length=15),
                      lambda apart: apart.entry(put_plain(5, "q", [1]), length=4),
                      lambda apart: apart.entry(put_plain(5, "q", [0] * 13 + [7]), length=17)])

    def test_name_of_nought_bytes(self):
        self.stopped_by_plains([1, 5, 0], [1, 5, 0, 97], [2, 0])

    def test_name_of_too_many_bytes(self):
        self.stopped_by_plains([1, 5, 65] + [7] * 65, [1, 5, 65] + [7] * 80, [2, 65] + [7] * 65,
                               [1, 5, 255] + [7] * 255, [2, 255] + [7] * 255)

    def test_name_longer_than_the_plain_text_has(self):
        self.stopped_by_plains([1, 5, 3, 97, 98], [1, 5, 64] + [7] * 63, [2, 3, 97, 98], [2, 2, 97])

    def test_kind_of_entry(self):
        for first in (0, 4, 5, 128, 255):
            self.stopped_by_plains([first], [first, 5, 1, 97], [first, 2, 97, 98], [first, 0, 0, 0, 0])

    def test_drop_with_bytes_behind_its_name(self):
        self.stopped_by_plains([2, 2, 97, 98, 0], [2, 1, 122, 122], [2, 1, 122] + [0] * 20)

    def test_back_with_bytes_too_few_and_too_many(self):
        self.stopped_by_plains([3, 0, 0, 0], [3, 1, 0, 0], [3, 0, 0, 0, 0, 0], [3, 1, 0, 0, 0, 0], [3] + [0] * 40)

    def test_drop_of_what_is_not_there(self):
        self.stopped_by_plains(drop_plain("a"), drop_plain("abc"), drop_plain([122, 0]), drop_plain([0] * 64))
        for shut in (0, 1):
            for ahead in ([drop_plain("ab")], [back_plain(0)], [back_plain(1), drop_plain("ab"), back_plain(0)]):
                good = Apart(shut).add(*SAMPLE[:2], *ahead)
                data = good.content + good.entry(drop_plain("ab"))
                self.assertEqual(last(new(), read(data, shut)), [len(good.ends) - 1, good.ends[-1], 3])

    def test_back_too_far(self):
        self.stopped_by_plains(*[back_plain(number) for number in (3, 4, 256, 1 << 16, 1 << 24, 1 << 31, 4294967295)])

    def test_first_entry_is_looked_at_likewise(self):
        for shut in (0, 1):
            head = Apart(shut)
            for plain in ([], [0], drop_plain("a"), back_plain(1), [1, 1, 0]):
                self.assertEqual(ask(new(), read(head.content + head.entry(plain), shut), names())[1:],
                                 [[0, 44, 3], [0]])
            self.assertEqual(last(new(), read(head.content + head.entry(back_plain(0)), shut)), [1, 88, 0])


class LongTest(unittest.TestCase):
    """Longer than what the interface hands in, since the words grant it."""

    def test_longest_plain_text(self):
        apart = Apart().add(put_plain(1, [3] * 64, [4] * 65536))
        self.assertEqual(ask(new(), read(apart.content), get([3] * 64))[1:],
                         [[1, 44 + 28 + 65616, 0], [1, 1] + [4] * 65536])

    def test_body_too_long_in_a_plain_text_that_is_not(self):
        good = Apart().add(put_plain(1, "a", [4] * 65536))
        data = Apart().add(put_plain(1, "a", [4] * 65537)).content
        self.assertEqual(last(new(), read(good.content)), [1, len(good.content), 0])
        self.assertEqual(last(new(), read(data)), [0, 44, 3])

    def test_most_bytes(self):
        head = Apart().content
        self.assertEqual(ask(new(), read(head + [1] * 1048532), read(head + [0] * 1048532))[1:],
                         [[0, 44, 3], [0, 44, 2]])

    def test_full_book(self):
        # An entry with a body of 65536 bytes under "a" has 65580 bytes.
        apart = Apart().add(*[put_plain(1, "a", [7] * 65536) for turn in range(15)])
        rest = 1048576 - len(apart.content)
        apart.add(put_plain(2, "b", [8] * ((rest - 28) // 16 * 16 - 4)))
        got = ask(new(), read(apart.content), put(3, "c"), drop("a"), back(0), drop("c"), version(14, "a"), squeeze(),
                  state())
        self.assertEqual(got[1], [16, len(apart.content), 0])
        self.assertEqual(got[2:6], [[-4], [-4], [-4], [-2]])
        self.assertEqual(got[6], [15, 1, 1] + [7] * 65536)
        self.assertEqual(got[7], [2])
        self.assertEqual(got[8][:4], [0, len(apart.content) - 14 * 65580, 2, 2])


if __name__ == "__main__":
    unittest.main()
