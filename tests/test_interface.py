"""What the interface promises of every list of calls."""

import contextlib
import io
import random
import sys
import unittest

from keptbook.book import answers
from tests.helper import (
    SAMPLE, Apart, alike, ask, back, back_plain, call, drop, drop_plain, get, joined, names, new, put, put_plain, read,
    sha, show, squeeze, state, summed, taken_apart, version, wrong_put)


class Guarded(list):
    """A list that tells when it is changed, be it for a while."""

    def refuse(self, *arguments):
        raise RuntimeError("the list was changed")

    append = extend = insert = pop = remove = clear = sort = reverse = refuse
    __setitem__ = __delitem__ = __iadd__ = __imul__ = refuse


class Model:
    """The document's words once more, in the plainest way: all that ever stood is kept beside one another."""

    def __init__(self, shut, salt, key):
        self.kept = (shut, salt, key)
        self.apart = Apart(shut, salt, key)
        self.plains = []
        self.stood = [({}, [])]

    def add(self, plain, stands):
        self.apart.add(plain)
        self.plains.append(plain)
        self.stood.append(stands)
        return [len(self.plains)]

    def put(self, kind, name, body):
        records, way = self.stood[-1]
        entry = (kind, len(self.stood), body)
        return self.add(put_plain(kind, name, body), ({**records, name: entry}, [*way, (name, entry)]))

    def drop(self, name):
        records, way = self.stood[-1]
        if name not in records:
            return [-2]
        left = {key: value for key, value in records.items() if key != name}
        return self.add(drop_plain(name), (left, [*way, (name, None)]))

    def back(self, number):
        if not 0 <= number < len(self.stood):
            return [-8]
        return self.add(back_plain(number), self.stood[number])

    def get(self, name):
        records = self.stood[-1][0]
        if name not in records:
            return [-2]
        kind, number, body = records[name]
        return [kind, number, *body]

    def names(self, begin, most):
        records = self.stood[-1][0]
        answer = [len(records)]
        for name in sorted(records)[begin:][:most]:
            kind, number, body = records[name]
            answer += [kind, number, len(body), len(name), *name]
        return answer

    def version(self, place, name):
        found = [entry for one, entry in self.stood[-1][1] if one == name and entry is not None][::-1]
        if len(found) <= place:
            return [-2]
        kind, number, body = found[place]
        return [len(found), kind, number, *body]

    def show(self, begin, most):
        content = self.apart.content
        return [len(content), *content[begin:][:most]]

    def state(self):
        content = self.apart.content
        return [0, len(content), len(self.plains), len(self.stood[-1][0]), *content[-20:]]

    def alike(self, data):
        common = 0
        while common < min(len(data), len(self.apart.content)) and data[common] == self.apart.content[common]:
            common += 1
        return [common, sum(1 for end in self.apart.ends[1:] if end <= common)]

    def squeezed(self):
        other = Model(*self.kept)
        for name, (kind, number, body) in sorted(self.stood[-1][0].items()):
            other.put(kind, name, body)
        return other

    def with_first(self, count):
        other = Model(*self.kept)
        for plain, stands in zip(self.plains[:count], self.stood[1:]):
            other.add(plain, stands)
        return other

    def read(self, data):
        """What is answered, and the book then, if data is this book's bytes, spoiled somewhere or with a bad entry."""
        common, count = self.alike(data)
        if common < 44:
            return [-3 if len(data) < 44 or common < 8 else -5], None
        begin = self.apart.ends[count]
        return [count, begin, self.why(data[begin:], self.apart.content[begin - 20:begin])], self.with_first(count)

    def why(self, data, sum_before):
        if len(data) == 0:
            return 0
        if len(data) < 8:
            return 1
        length = int.from_bytes(bytes(data[:4]), "little")
        end = 8 + (length + 15) // 16 * 16
        if length > 65603:
            return 3
        if len(data) < end + 20:
            return 1
        return 3 if sha(sum_before + data[:end]) == data[end:end + 20] else 2


def random_name(source):
    return bytes(source.choice(b"\x00ab\xff") for turn in range(source.choice((1, 1, 1, 2, 2, 3))))


def random_bytes(source, most):
    return [source.randrange(256) for turn in range(source.randrange(most + 1))]


def random_model(source):
    shut = source.randrange(2)
    return Model(shut, [source.randrange(256) for turn in range(16)],
                 [source.randrange(256) for turn in range(16 * shut)])


def random_grown_model(source):
    model = random_model(source)
    for turn in range(source.randrange(6)):
        random_change(source, model)
    return model


def random_change(source, model):
    chosen = source.choice(("put", "put", "put", "drop", "drop", "back"))
    name = random_name(source)
    if chosen == "put":
        kind = source.randrange(256)
        body = bytes(random_bytes(source, 20))
        return put(kind, name, body), model.put(kind, name, body)
    if chosen == "drop":
        return drop(name), model.drop(name)
    number = source.randrange(-1, len(model.stood) + 1)
    return back(number), model.back(number)


def random_question(source, model):
    chosen = source.choice(("get", "names", "version", "version", "show", "state", "sum", "alike"))
    name = random_name(source)
    begin, most = source.randrange(8), source.randrange(8)
    if chosen == "get":
        return get(name), model.get(name)
    if chosen == "names":
        return names(begin, most), model.names(begin, most)
    if chosen == "version":
        return version(begin % 4, name), model.version(begin % 4, name)
    if chosen == "show":
        begin, most = 40 * begin, source.choice((0, 20, 100))
        return show(begin, most), model.show(begin, most)
    if chosen == "state":
        return state(), model.state()
    if chosen == "sum":
        data = random_bytes(source, 130)
        return summed(data), [0, *sha(data)]
    data = spoiled(source, model.apart)
    return alike(data), model.alike(data)


def spoiled(source, apart):
    chosen = source.choice(("not", "not", "cut", "changed", "longer", "bad", "bad"))
    data = list(apart.content)
    if chosen == "cut":
        return data[:source.randrange(len(data))]
    if chosen == "changed":
        place = source.randrange(44) if source.randrange(6) == 0 else source.randrange(len(data))
        data[place] ^= source.randrange(1, 256)
    if chosen == "longer":
        data += random_bytes(source, 40)
    if chosen == "bad":
        count = len(apart.ends)
        data += apart.entry(*source.choice((
            (put_plain(1, "a"), count + 1), (put_plain(1, "a"), None, 3), (put_plain(1, "a"), None, None, 1),
            ([],), ([0],), ([4, 1, 97],), (drop_plain("never"),), ([2, 1, 97, 0],), (back_plain(count),),
            ([3, 0, 0, 0],), ([1, 1, 0, 97],), ([1, 1, 65] + [97] * 65,))))
        data += random_bytes(source, 3)
    return data


def random_read(source, model):
    read_model = model if source.randrange(3) else random_grown_model(source)
    data = spoiled(source, read_model.apart)
    answer, then = read_model.read(data)
    return read(data, read_model.apart.shut, read_model.apart.key), answer, model if then is None else then


def random_step(source, model):
    """A call, its answer, and the book then."""
    chosen = source.randrange(20)
    if chosen == 0:
        model = random_model(source)
        shut, salt, key = model.kept
        return new(shut, salt, key), [0], model
    if chosen == 1:
        model = model.squeezed()
        return squeeze(), [len(model.plains)], model
    if chosen < 4:
        return random_read(source, model)
    if chosen < 12:
        return *random_change(source, model), model
    return *random_question(source, model), model


def many_calls():
    """As many as there may be, of all kinds."""
    rows = [new(1)]
    for k in range(143):
        rows.append(put(k, [k % 7, k % 5], [k] * (k % 9)))
        rows.append(back(k * 5 % (2 * k + 1)) if k % 3 else version(k % 4, [k % 7, k % 5]))
    content = Apart(1).add(*SAMPLE).content
    rows += [wrong_put(256, 1, 1), names(), get([1, 1]), show(), state(), squeeze(), state(), summed("abc"),
             alike(content), read(content, 1), names(), drop("ab"), show()]
    return joined(rows)


class AnswersTest(unittest.TestCase):
    def test_each_answer_has_its_count_before_it(self):
        calls = joined([new(), put(7, "a", "xyz"), get("a"), get("b"), names(), version(0, "a"), back(9)])
        answered = answers(calls)
        self.assertEqual(answered, [1, 0, 1, 1, 5, 7, 1, *b"xyz", 1, -2, 6, 1, 7, 1, 3, 1, 97,
                                    6, 1, 7, 1, *b"xyz", 1, -8])
        self.assertIs(type(answered), list)
        self.assertEqual({type(number) for number in answered}, {int})

    def test_against_the_model(self):
        seen = {}
        for seed in range(400):
            source = random.Random(seed)
            model = random_model(source)
            shut, salt, key = model.kept
            calls, wanted = [new(shut, salt, key)], [[0]]
            for step in range(source.randrange(60)):
                one, answer, model = random_step(source, model)
                calls.append(one)
                wanted.append(answer)
                if one[0] == 9:
                    seen[answer[-1]] = True
            self.assertLessEqual(len(joined(calls)), 31000)
            self.assertEqual(ask(*calls), wanted, seed)
        self.assertEqual(sorted(seen), [-5, -3, 0, 1, 2, 3])

    def test_list_is_not_changed(self):
        calls = many_calls()
        before = list(calls)
        guarded = Guarded(calls)
        wanted = answers(calls)
        self.assertEqual(calls, before)
        self.assertEqual(answers(guarded), wanted)
        self.assertEqual(list(guarded), before)

    def test_changing_an_answer_changes_no_other(self):
        calls = joined([new(), put(1, "a", "xyz"), get("a"), get("a")])
        first = answers(calls)
        wanted = list(first)
        first.clear()
        self.assertEqual(answers(calls), wanted)

    def test_same_calls_same_answers(self):
        calls = many_calls()
        first = answers(calls)
        self.assertEqual(answers(calls), first)
        answers(joined([new(), put(1, "a"), put(1, [1, 1], "other")]))
        self.assertEqual(answers(calls), first)

    def test_nothing_is_printed(self):
        printed = io.StringIO()
        with contextlib.redirect_stdout(printed), contextlib.redirect_stderr(printed):
            answers(many_calls())
        self.assertEqual(printed.getvalue(), "")

    def test_many_calls_within_few_calls_in_one_another(self):
        calls = many_calls()
        wanted = answers(calls)
        depth = 0
        frame = sys._getframe()
        while frame is not None:
            depth += 1
            frame = frame.f_back
        before = sys.getrecursionlimit()
        sys.setrecursionlimit(depth + 40)
        try:
            got = answers(calls)
        finally:
            sys.setrecursionlimit(before)
        self.assertEqual(got, wanted)

    def test_as_many_calls_as_there_may_be(self):
        self.assertEqual(len(taken_apart(answers(many_calls()))), 300)
        for one in (squeeze(), state(), back(0)):
            parts = ask(new(1), *[one] * 299)
            self.assertEqual(len(parts), 300)
            self.assertTrue(all(part[0] >= 0 for part in parts))

    def test_refusals_in_a_row_leave_the_book(self):
        wrong = [new(2), wrong_put(-1, 1, 1), call(3, [0], []), drop("b"), back(-1), back(2), call(5, [65], []),
                 get("b"), names(-1, 1), names(0, 4097), version(-1, "a"), version(1, "a"), show(-1, 0),
                 show(0, 65537), call(9, [2, 0], [], []), call(9, [0, -1], [], []), read([]), read([0] * 44),
                 read(Apart(0).content[:24] + [0] * 20), call(10, [-1], []), call(12, [65537], [])]
        got = ask(new(), put(1, "a", "x"), *wrong, get("a"), names(), version(0, "a"), show(), put(2, "b"))
        content = Apart().add(put_plain(1, "a", "x")).content
        self.assertEqual([part[0] for part in got[2:23]],
                         [-8, -8, -8, -2, -8, -8, -8, -2, -8, -8, -8, -2, -8, -8, -8, -8, -3, -3, -5, -8, -8])
        self.assertTrue(all(len(part) == 1 for part in got[2:23]))
        self.assertEqual(got[23:], [[1, 1, 120], [1, 1, 1, 1, 1, 97], [1, 1, 1, 120], [88, *content], [2]])


class LongListTest(unittest.TestCase):
    """Lists as long as may be."""

    def filled(self, *calls):
        """The calls, with a sum behind that makes the list 31000 long."""
        data = [7] * (31000 - len(joined(calls)) - 5)
        rows = joined([*calls, summed(data)])
        self.assertEqual(len(rows), 31000)
        parts = taken_apart(answers(rows))
        self.assertEqual(parts[-1], [0, *sha(data)])
        return parts

    def test_long_body(self):
        body = [k * k % 256 for k in range(28000)]
        for shut in (0, 1):
            content = Apart(shut).add(put_plain(1, "a", body), put_plain(2, "a"), back_plain(1)).content
            squeezed = Apart(shut).add(put_plain(1, "a", body)).content
            got = self.filled(new(shut), put(1, "a", body), put(2, "a"), back(1), get("a"), version(0, "a"), show(),
                              squeeze(), show(), state())
            self.assertEqual(got[4:7], [[1, 1, *body], [1, 1, 1, *body], [len(content), *content]])
            self.assertEqual(got[7:10], [[1], [len(squeezed), *squeezed], [0, len(squeezed), 1, 1, *squeezed[-20:]]])

    def long_book(self, shut):
        """Of 28000 bytes: with three entries, the third of which makes it whole."""
        apart = Apart(shut).add(put_plain(1, "b", [5] * 9000), put_plain(2, "a", [6] * 9000))
        apart.add(put_plain(3, "b", [k % 256 for k in range(28000 - len(apart.content) - 32)]))
        self.assertEqual(len(apart.content), 28000)
        return apart

    def test_long_book_is_read(self):
        for shut in (0, 1):
            apart = self.long_book(shut)
            got = self.filled(new(), read(apart.content, shut), version(1, "b"), get("a"), show(), squeeze(), names())
            self.assertEqual(got[1:5], [[3, 28000, 0], [2, 1, 1] + [5] * 9000, [2, 2] + [6] * 9000,
                                        [28000, *apart.content]])
            self.assertEqual(got[5][0], 2)

    def test_long_book_is_compared(self):
        content = self.long_book(0).content
        self.assertEqual(self.filled(new(), alike(content))[1], [44, 0])
        self.assertEqual(self.filled(new(), read(content[:44]), alike(content))[2], [44, 0])

    def test_long_sum(self):
        data = [k * k % 251 for k in range(28000)]
        self.assertEqual(self.filled(new(1), summed(data))[1], [0, *sha(data)])

    def test_many_small_entries_are_read(self):
        for shut in (0, 1):
            plains = []
            for k in range(630):
                plains.append(back_plain(k * k % (k + 1)) if k % 4 == 3 else put_plain(k % 256, [k % 256, k // 256]))
            content = Apart(shut).add(*plains).content
            got = self.filled(new(), read(content, shut), state(), squeeze(), state())
            self.assertEqual(got[1], [630, len(content), 0])
            self.assertEqual(got[2][:3], [0, len(content), 630])
            self.assertEqual(got[3], [got[2][3]])


if __name__ == "__main__":
    unittest.main()
