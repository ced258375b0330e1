"""Points 5 to 7: get, names, version."""

import unittest

from tests.helper import LEAST, MOST, ask, back, call, drop, get, last, listed, names, new, put, version


class GetTest(unittest.TestCase):
    def test_kind_entry_and_body(self):
        self.assertEqual(last(new(), put(9, "x"), put(7, "name", "body"), get("name")), [7, 2, *b"body"])

    def test_empty_body(self):
        self.assertEqual(last(new(), put(7, "name"), get("name")), [7, 1])

    def test_entry_is_the_put_not_the_back(self):
        self.assertEqual(last(new(), put(7, "a", "1"), put(8, "a", "2"), back(1), get("a")), [7, 1, ord("1")])

    def test_no_such_record(self):
        got = ask(new(), get("a"), put(1, "ab"), get("a"), get("abc"), get("AB"), get([97, 98, 0]), drop("ab"), get("ab"))
        self.assertEqual(got[1:], [[-2], [1], [-2], [-2], [-2], [-2], [2], [-2]])

    def test_length_out_of_range_comes_first(self):
        for length in (0, -1, 65, LEAST, MOST):
            self.assertEqual(ask(new(), call(5, [length], []), put(1, "a"), call(5, [length], []))[1:],
                             [[-8], [1], [-8]], length)


class NamesTest(unittest.TestCase):
    def test_order_of_bytes(self):
        shuffled = [[2], [1, 255], [255], [1], [1, 0], [0], [1, 0, 0], [128], [127, 255], [0, 0], [97] * 64, [97] * 63]
        calls = [put(k, name, [0] * k) for k, name in enumerate(shuffled)]
        wanted = [[0], [0, 0], [1], [1, 0], [1, 0, 0], [1, 255], [2], [97] * 63, [97] * 64, [127, 255], [128], [255]]
        rows = [(shuffled.index(name), shuffled.index(name) + 1, shuffled.index(name), name) for name in wanted]
        self.assertEqual(last(new(), *calls, names()), [12, *listed(*rows)])

    def test_part_of_them(self):
        calls = [put(k, name, "x" * k) for k, name in enumerate("dcba")]
        rows = [(3, 4, 3, "a"), (2, 3, 2, "b"), (1, 2, 1, "c"), (0, 1, 0, "d")]
        for begin in range(6):
            for most in range(6):
                self.assertEqual(last(new(), *calls, names(begin, most)),
                                 [4, *listed(*rows[begin:begin + most])], (begin, most))

    def test_edges(self):
        self.assertEqual(
            ask(new(), names(0, 0), names(MOST, 4096), put(1, "a"), names(0, 0), names(1, 4096), names(MOST, 4096),
                names(0, 1), names(0, 4096))[1:],
            [[0], [0], [1], [1], [1], [1], [1, *listed((1, 1, 0, "a"))], [1, *listed((1, 1, 0, "a"))]])

    def test_out_of_range(self):
        for begin, most in ((-1, 0), (LEAST, 1), (0, -1), (0, 4097), (0, LEAST), (0, MOST), (-1, -1), (MOST, 4097)):
            self.assertEqual(ask(new(), put(1, "a"), names(begin, most), get("a"))[2:], [[-8], [1, 1]], (begin, most))

    def test_after_drop_and_back(self):
        got = ask(new(), put(1, "b", "12"), put(2, "a"), drop("b"), names(), back(2), names(), put(3, "b"), names())
        self.assertEqual(got[4], [1, *listed((2, 2, 0, "a"))])
        self.assertEqual(got[6], [2, *listed((2, 2, 0, "a"), (1, 1, 2, "b"))])
        self.assertEqual(got[8], [2, *listed((2, 2, 0, "a"), (3, 5, 0, "b"))])


class VersionTest(unittest.TestCase):
    def test_last_first(self):
        got = ask(new(), put(1, "a", "one"), put(9, "b"), put(2, "a", "two"), put(3, "a"),
                  version(0, "a"), version(1, "a"), version(2, "a"), version(3, "a"), version(0, "b"), version(1, "b"))
        self.assertEqual(got[5:], [[3, 3, 4], [3, 2, 3, *b"two"], [3, 1, 1, *b"one"], [-2], [1, 9, 2], [-2]])

    def test_none(self):
        self.assertEqual(ask(new(), version(0, "a"), put(1, "ab"), version(0, "a"), version(0, "abc"),
                             version(MOST, "ab"))[1:], [[-2], [1], [-2], [-2], [-2]])

    def test_across_a_drop(self):
        got = ask(new(), put(1, "a", "x"), drop("a"), version(0, "a"), version(1, "a"), put(2, "a", "y"),
                  version(0, "a"), version(1, "a"), version(2, "a"), drop("a"), get("a"), version(1, "a"))
        self.assertEqual(got[3:5], [[1, 1, 1, ord("x")], [-2]])
        self.assertEqual(got[6:9], [[2, 2, 3, ord("y")], [2, 1, 1, ord("x")], [-2]])
        self.assertEqual(got[10:], [[-2], [2, 1, 1, ord("x")]])

    def test_across_a_back(self):
        got = ask(new(), put(1, "a", "1"), put(2, "a", "2"), back(1), version(0, "a"), version(1, "a"),
                  put(3, "a", "3"), version(0, "a"), version(1, "a"), version(2, "a"),
                  back(2), version(0, "a"), version(1, "a"), back(0), version(0, "a"),
                  back(4), version(0, "a"), version(1, "a"), back(7), version(1, "a"))
        one, two, three = ord("1"), ord("2"), ord("3")
        self.assertEqual(got[4:6], [[1, 1, 1, one], [-2]])
        self.assertEqual(got[7:10], [[2, 3, 4, three], [2, 1, 1, one], [-2]])
        self.assertEqual(got[11:13], [[2, 2, 2, two], [2, 1, 1, one]])
        self.assertEqual(got[14], [-2])
        self.assertEqual(got[16:18], [[2, 3, 4, three], [2, 1, 1, one]])
        self.assertEqual(got[19], [2, 1, 1, one])

    def test_back_ahead_of_a_drop(self):
        got = ask(new(), put(1, "a"), drop("a"), put(2, "a"), back(2), version(0, "a"), get("a"), back(1), get("a"),
                  version(1, "a"))
        self.assertEqual(got[5:], [[1, 1, 1], [-2], [5], [1, 1], [-2]])

    def test_out_of_range_comes_first(self):
        for place, length in ((-1, 0), (LEAST, 65), (0, 0), (0, -1), (0, 65), (0, LEAST), (0, MOST), (MOST, 0)):
            self.assertEqual(last(new(), put(1, "a"), call(7, [place, length], [])), [-8], (place, length))
        self.assertEqual(last(new(), put(1, "a"), version(-1, "a")), [-8])
        self.assertEqual(last(new(), put(1, "a"), version(LEAST, "b")), [-8])


if __name__ == "__main__":
    unittest.main()
