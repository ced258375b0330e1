"""Points 1 to 4: new, put, drop, back."""

import unittest

from tests.helper import (
    KEY, LEAST, MOST, SALT, ask, back, call, drop, get, last, listed, names, new, put, version, wrong_put)


class NewTest(unittest.TestCase):
    def test_answers_nought(self):
        self.assertEqual(ask(new(0)), [[0]])
        self.assertEqual(ask(new(1)), [[0]])

    def test_no_record_in_a_new_book(self):
        for shut in (0, 1):
            self.assertEqual(ask(new(shut), names(), get("a"), version(0, "a")), [[0], [0], [-2], [-2]])

    def test_new_again_begins_another_book(self):
        got = ask(new(0), put(1, "a", "x"), put(2, "b"), new(1), names(), get("a"), version(0, "a"), back(1),
                  put(9, "c"), new(0), names(), put(1, "a"))
        self.assertEqual(got, [[0], [1], [2], [0], [0], [-2], [-2], [-8], [1], [0], [0], [1]])

    def test_shut_out_of_range_leaves_the_book(self):
        for shut in (-1, 2, LEAST, MOST):
            got = ask(new(1), put(5, "a", "xy"), new(shut), get("a"), names(), put(6, "b"))
            self.assertEqual(got[2:], [[-8], [5, 1, *b"xy"], [1, *listed((5, 1, 2, "a"))], [2]], shut)

    def test_key_and_salt_do_not_change_the_answers(self):
        rest = [put(1, "a", "x"), put(2, "a", "y"), back(1), get("a"), drop("a"), names(), version(0, "a")]
        first = ask(new(0), *rest)
        self.assertEqual(ask(new(1), *rest), first)
        self.assertEqual(ask(new(1, SALT[::-1], KEY[::-1]), *rest), first)
        self.assertEqual(ask(new(0, [255] * 16), *rest), first)


class PutTest(unittest.TestCase):
    def test_entries_are_numbered_from_one(self):
        self.assertEqual(ask(new(), put(0, "a"), put(1, "b"), put(2, "a"), drop("b"), back(0), put(0, "c")),
                         [[0], [1], [2], [3], [4], [5], [6]])

    def test_kinds_at_their_edges(self):
        for kind in (0, 1, 254, 255):
            self.assertEqual(last(new(), put(kind, "a", "q"), get("a")), [kind, 1, ord("q")])

    def test_names_of_one_and_of_most_bytes(self):
        for name in ([0], [255], list(range(64)), [255] * 64, [0] * 63):
            self.assertEqual(ask(new(1), put(3, name, "b"), get(name))[1:], [[1], [3, 1, ord("b")]])

    def test_empty_and_long_bodies(self):
        for length in (0, 1, 12, 13, 16, 1000, 28000):
            body = [(k * k + k // 256) % 256 for k in range(length)]
            for shut in (0, 1):
                self.assertEqual(last(new(shut), put(3, "abc", body), get("abc")), [3, 1, *body])

    def test_body_of_most_bytes(self):
        body = [k % 253 for k in range(65536)]
        self.assertEqual(last(new(), put(3, "abc", body), get("abc")), [3, 1, *body])

    def test_put_again_takes_the_place(self):
        got = ask(new(), put(1, "a", "long body"), put(2, "b", "B"), put(3, "a", "x"), get("a"), get("b"), names())
        self.assertEqual(got[4:], [[3, 3, ord("x")], [2, 2, ord("B")],
                                   [2, *listed((3, 3, 1, "a"), (2, 2, 1, "b"))]])

    def test_numbers_out_of_range_leave_the_book(self):
        wrong = [(-1, 1, 0), (256, 1, 0), (LEAST, 1, 0), (MOST, 1, 0),
                 (0, 0, 0), (0, -1, 0), (0, 65, 0), (0, LEAST, 0), (0, MOST, 0),
                 (0, 1, -1), (0, 1, 65537), (0, 1, LEAST), (0, 1, MOST),
                 (-1, 0, -1), (256, 65, 65537)]
        for numbers in wrong:
            got = ask(new(), put(5, "a", "x"), wrong_put(*numbers), names(), version(0, "a"), back(2), put(6, "b"))
            self.assertEqual(got[2:], [[-8], [1, *listed((5, 1, 1, "a"))], [1, 5, 1, ord("x")], [-8], [2]], numbers)


class DropTest(unittest.TestCase):
    def test_only_that_record_goes(self):
        got = ask(new(), put(1, "a", "x"), put(2, "ab", "y"), drop("a"), get("a"), get("ab"), names())
        self.assertEqual(got[3:], [[3], [-2], [2, 2, ord("y")], [1, *listed((2, 2, 1, "ab"))]])

    def test_no_such_record(self):
        got = ask(new(), drop("a"), put(1, "ab"), drop("a"), drop("abc"), drop("b"), drop([0] * 64), names())
        self.assertEqual(got[1:], [[-2], [1], [-2], [-2], [-2], [-2], [1, *listed((1, 1, 0, "ab"))]])

    def test_dropped_twice(self):
        got = ask(new(), put(1, "a"), drop("a"), drop("a"), names(), put(2, "a"), drop("a"))
        self.assertEqual(got[1:], [[1], [2], [-2], [0], [3], [4]])

    def test_refusal_writes_no_entry(self):
        self.assertEqual(ask(new(), put(1, "a"), drop("b"), back(2), put(1, "b"))[2:], [[-2], [-8], [2]])

    def test_dropped_names_at_their_edges(self):
        for name in ([0], [255] * 64):
            self.assertEqual(ask(new(), put(1, name), drop(name), get(name))[2:], [[2], [-2]])

    def test_length_out_of_range_comes_first(self):
        for length in (0, -1, 65, LEAST, MOST):
            got = ask(new(), call(3, [length], []), put(1, "a"), call(3, [length], []), names(), back(2))
            self.assertEqual(got[1:], [[-8], [1], [-8], [1, *listed((1, 1, 0, "a"))], [-8]], length)


class BackTest(unittest.TestCase):
    def test_to_the_head(self):
        got = ask(new(), put(1, "a"), put(2, "b"), back(0), names(), get("a"), version(0, "a"))
        self.assertEqual(got[3:], [[3], [0], [-2], [-2]])

    def test_to_the_head_of_a_book_without_entries(self):
        self.assertEqual(ask(new(), back(0), names(), back(1), back(3))[1:], [[1], [0], [2], [-8]])

    def test_to_the_last_entry_changes_nothing(self):
        got = ask(new(), put(1, "a", "x"), put(2, "b"), back(2), names(), get("a"))
        self.assertEqual(got[3:], [[3], [2, *listed((1, 1, 1, "a"), (2, 2, 0, "b"))], [1, 1, ord("x")]])

    def test_to_each_entry_and_on_again(self):
        rows = [put(1, "a", "one"), put(2, "b", "two"), put(3, "a", "three"), drop("b")]
        stood = [[0],
                 [1, *listed((1, 1, 3, "a"))],
                 [2, *listed((1, 1, 3, "a"), (2, 2, 3, "b"))],
                 [2, *listed((3, 3, 5, "a"), (2, 2, 3, "b"))],
                 [1, *listed((3, 3, 5, "a"))]]
        for there in range(5):
            for on in range(5):
                got = ask(new(), *rows, back(there), names(), back(on), names())
                self.assertEqual(got[5:], [[5], stood[there], [6], stood[on]], (there, on))

    def test_back_behind_a_back(self):
        got = ask(new(), put(1, "a"), put(2, "b"), back(1), put(3, "c"), back(3), names(), back(0), back(7), names(),
                  back(4), names())
        only_a = [1, *listed((1, 1, 0, "a"))]
        self.assertEqual(got[5:], [[5], only_a, [6], [-8], [0], [7], [2, *listed((1, 1, 0, "a"), (3, 4, 0, "c"))]])

    def test_back_to_a_back(self):
        got = ask(new(), put(1, "a"), back(0), back(1), back(2), names(), back(3), names())
        self.assertEqual(got[4:], [[4], [0], [5], [1, *listed((1, 1, 0, "a"))]])

    def test_what_was_left_can_be_dropped_no_more(self):
        self.assertEqual(ask(new(), put(1, "a"), back(0), drop("a"), back(1), drop("a"))[3:], [[-2], [3], [4]])

    def test_out_of_range_leaves_the_book(self):
        for number in (-1, 3, LEAST, MOST):
            got = ask(new(), put(1, "a"), put(2, "b"), back(number), names(), put(3, "c"))
            self.assertEqual(got[3:], [[-8], [2, *listed((1, 1, 0, "a"), (2, 2, 0, "b"))], [3]], number)

    def test_entry_may_not_name_itself(self):
        self.assertEqual(ask(new(), back(1), back(0), back(2), back(1))[1:], [[-8], [1], [-8], [2]])


class FullBookTest(unittest.TestCase):
    """No list within the interface's bounds fills a book: this one is longer, for the -4 of points 2 to 4."""

    def fill(self):
        # An entry with a body of 65536 bytes under "a" has 8 + 65552 + 20 bytes; four are left to come to 1048576.
        room = 1048576 - 44 - 15 * 65580
        parts = [60, 60, 60]
        rest = room - sum(parts)
        calls = [put(1, "a", [7] * 65536) for turn in range(15)]
        for part in [*parts, rest]:
            blocks = part - 28
            self.assertEqual(blocks % 16, 0)
            calls.append(put(2, "b", [8] * (blocks - 4)))
        return calls, rest

    def test_full_book(self):
        calls, rest = self.fill()
        full = [put(3, "c"), drop("a"), back(0), drop("c"), wrong_put(256, 1, 0), call(3, [0], []), back(20),
                back(-1), get("c"), version(14, "a"), get("b")]
        got = ask(new(), *calls, *full)
        self.assertEqual(got[1:20], [[number] for number in range(1, 20)])
        self.assertEqual(got[20:29], [[-4], [-4], [-4], [-2], [-8], [-8], [-8], [-8], [-2]])
        self.assertEqual(got[29], [15, 1, 1] + [7] * 65536)
        self.assertEqual(got[30], [2, 19] + [8] * (rest - 32))

    def test_one_block_too_many(self):
        calls, rest = self.fill()
        calls[-1] = put(2, "b", [8] * (rest - 28 - 4 + 1))
        got = ask(new(), *calls, put(2, "b", [8] * (rest - 28 - 4)), put(0, "d"))
        self.assertEqual(got[18:], [[18], [-4], [19], [-4]])


if __name__ == "__main__":
    unittest.main()
