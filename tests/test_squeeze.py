"""Point 11: squeeze."""

import unittest

from tests.helper import (
    SALT, SAMPLE, Apart, as_call, ask, back, drop, get, last, listed, names, new, put, put_plain, read, show,
    squeeze, state, version)


class SqueezeTest(unittest.TestCase):
    def same_as_new(self, shut, before, puts):
        """Squeezed, the book before is one of its head and these puts: (kind, name, body) in the order of names."""
        rest = [names(), state(), show(), *[row for kind, name, body in puts for row in (
            get(name), version(0, name), version(1, name))], back(len(puts) + 1), back(0), state(), back(len(puts)),
            put(77, "next", "entry"), names(), state(), show()]
        got = ask(new(shut), *before, squeeze(), *rest)
        wanted = ask(new(shut), *[put(kind, name, body) for kind, name, body in puts], *rest)
        self.assertEqual(got[1 + len(before)], [len(puts)])
        self.assertEqual(got[2 + len(before):], wanted[1 + len(puts):])

    def test_no_record(self):
        for shut in (0, 1):
            head = Apart(shut).content
            for before in ([], [back(0)], [put(1, "a"), drop("a")], [put(1, "a"), put(2, "b"), back(0)]):
                self.same_as_new(shut, before, [])
                got = ask(new(shut), *before, squeeze(), show(), state(), names(), version(0, "a"), back(1))
                self.assertEqual(got[1 + len(before):],
                                 [[0], [44, *head], [0, 44, 0, 0, *head[24:]], [0], [-2], [-8]])

    def test_order_of_names(self):
        before = [put(3, "c", "C"), put(1, "a", "A"), put(4, "ca"), put(2, "b", "B"), put(5, [255]), put(6, [0])]
        puts = [(6, [0], ""), (1, "a", "A"), (2, "b", "B"), (3, "c", "C"), (4, "ca", ""), (5, [255], "")]
        for shut in (0, 1):
            self.same_as_new(shut, before, puts)

    def test_bytes_made_apart(self):
        for shut in (0, 1):
            apart = Apart(shut).add(
                put_plain(0, [0] * 64), put_plain(9, "ab", "second"), put_plain(3, "z", [255] * 40))
            content = apart.content
            got = ask(new(shut), *[as_call(plain) for plain in SAMPLE], squeeze(), show(), state())
            self.assertEqual(got[13:], [[3], [len(content), *content], [0, len(content), 3, 3, *content[-20:]]])

    def test_drops_backs_and_versions(self):
        before = [put(1, "a", "1"), put(2, "b", "2"), put(3, "a", "3"), drop("b"), put(4, "c", "4"), back(4),
                  put(5, "b", "5"), put(6, "d"), drop("d")]
        for shut in (0, 1):
            self.same_as_new(shut, before, [(3, "a", "3"), (5, "b", "5")])

    def test_same_salt_and_key_are_kept(self):
        salt = SALT[::-1]
        for shut, key in ((0, []), (1, [k * 7 for k in range(16)])):
            apart = Apart(shut, salt, key).add(put_plain(2, "b", "two"))
            calls = [put(1, "b", "one"), put(2, "b", "two"), squeeze(), show()]
            self.assertEqual(last(new(shut, salt, key), *calls), [len(apart.content), *apart.content])
            apart.add(put_plain(3, "c"))
            self.assertEqual(last(new(shut, salt, key), *calls, put(3, "c"), show()),
                             [len(apart.content), *apart.content])

    def test_numbers_of_get_and_names(self):
        got = ask(new(), put(1, "b", "B"), put(2, "c"), put(3, "a", "AA"), drop("c"), squeeze(), get("a"), get("b"),
                  names(), put(4, "c"), get("c"))
        self.assertEqual(got[5:], [[2], [3, 1, *b"AA"], [1, 2, *b"B"],
                                   [2, *listed((3, 1, 2, "a"), (1, 2, 1, "b"))], [3], [4, 3]])

    def test_nothing_of_before_is_left(self):
        got = ask(new(), put(1, "a", "1"), put(2, "a", "2"), put(3, "b"), drop("b"), squeeze(),
                  version(0, "a"), version(1, "a"), version(0, "b"), back(2), back(1), back(0), names(), version(0, "a"))
        self.assertEqual(got[5:], [[1], [1, 2, 1, *b"2"], [-2], [-2], [-8], [2], [3], [0], [-2]])

    def test_squeezed_twice(self):
        for shut in (0, 1):
            before = [as_call(plain) for plain in SAMPLE]
            got = ask(new(shut), *before, squeeze(), names(), state(), show(), squeeze(), names(), state(), show())
            self.assertEqual(got[13:17], got[17:])

    def test_entries_that_lie_in_their_places(self):
        # The first so many puts are in the order of names already; what comes behind them is not.
        for shut in (0, 1):
            for count in range(5):
                before = [put(k, [10 + k], [k] * 20) for k in range(count)]
                puts = [(k, [10 + k], [k] * 20) for k in range(count)]
                self.same_as_new(shut, before, puts)
                self.same_as_new(shut, before + [put(9, "z"), put(8, "y")], puts + [(8, "y", ""), (9, "z", "")])
                self.same_as_new(shut, before + [put(9, [1], "front")], [(9, [1], "front")] + puts)
                if count:
                    self.same_as_new(shut, before + [drop([9 + count])], puts[:-1])
                    self.same_as_new(shut, before + [put(7, [10], "anew")], [(7, [10], "anew")] + puts[1:])
                    self.same_as_new(shut, before + [back(count - 1)], puts[:-1])
                    self.same_as_new(shut, before + [back(0), *before], puts)

    def test_book_that_was_read(self):
        for shut in (0, 1):
            apart = Apart(shut).add(*SAMPLE)
            rest = [squeeze(), names(), state(), show(), put(1, "on"), show()]
            wanted = ask(new(shut), *[as_call(plain) for plain in SAMPLE], *rest)[13:]
            self.assertEqual(ask(new(), read(apart.content, shut), *rest)[2:], wanted)

    def test_squeezed_book_is_read(self):
        for shut in (0, 1):
            apart = Apart(shut).add(*SAMPLE)
            squeezed = last(new(), read(apart.content, shut), squeeze(), show())[1:]
            got = ask(new(), read(squeezed, shut), names(), version(0, "ab"), version(1, "ab"))
            self.assertEqual(got[1:], [
                [3, len(squeezed), 0],
                [3, *listed((0, 1, 0, [0] * 64), (9, 2, 6, "ab"), (3, 3, 40, "z"))],
                [1, 9, 2, *b"second"], [-2]])

    def test_full_book(self):
        # Longer than the interface's lists: what is squeezed out makes room again.
        body = [5] * 65536
        got = ask(new(), *[put(1, "a", body) for turn in range(15)], put(2, "b", body), squeeze(), state(),
                  put(3, "b", body))
        self.assertEqual(got[16], [-4])
        self.assertEqual(got[17], [1])
        self.assertEqual(got[18][:4], [0, 44 + 65580, 1, 1])
        self.assertEqual(got[19], [2])


if __name__ == "__main__":
    unittest.main()
