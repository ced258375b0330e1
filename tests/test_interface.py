"""What the interface promises of every list of calls."""

import contextlib
import io
import random
import sys
import unittest

from keptbook.book import answers
from tests.helper import ask, back, call, drop, get, joined, names, new, put, version, wrong_put


class Guarded(list):
    """A list that tells when it is changed, be it for a while."""

    def refuse(self, *arguments):
        raise RuntimeError("the list was changed")

    append = extend = insert = pop = remove = clear = sort = reverse = refuse
    __setitem__ = __delitem__ = __iadd__ = __imul__ = refuse


class Model:
    """The document's words once more, in the plainest way: all that ever stood is kept beside one another."""

    def __init__(self):
        self.stood = [({}, [])]

    def put(self, kind, name, body):
        number = len(self.stood)
        records, way = self.stood[-1]
        entry = (kind, number, body)
        self.stood.append(({**records, name: entry}, [*way, (name, entry)]))
        return [number]

    def drop(self, name):
        number = len(self.stood)
        records, way = self.stood[-1]
        if name not in records:
            return [-2]
        self.stood.append(({key: value for key, value in records.items() if key != name}, [*way, (name, None)]))
        return [number]

    def back(self, number):
        if not 0 <= number < len(self.stood):
            return [-8]
        self.stood.append(self.stood[number])
        return [len(self.stood) - 1]

    def get(self, name):
        records = self.stood[-1][0]
        if name not in records:
            return [-2]
        kind, number, body = records[name]
        return [kind, number, *body]

    def names(self, begin, most):
        records = self.stood[-1][0]
        answer = [len(records)]
        for name in sorted(records)[begin:][:most]:
            kind, number, body = records[name]
            answer += [kind, number, len(body), len(name), *name]
        return answer

    def version(self, place, name):
        found = [entry for one, entry in self.stood[-1][1] if one == name and entry is not None][::-1]
        if len(found) <= place:
            return [-2]
        kind, number, body = found[place]
        return [len(found), kind, number, *body]


def random_name(source):
    return bytes(source.choice(b"\x00ab\xff") for turn in range(source.choice((1, 1, 1, 2, 2, 3))))


def random_step(source, model):
    chosen = source.choice(("put", "put", "put", "drop", "drop", "back", "get", "names", "version", "version"))
    name = random_name(source)
    if chosen == "put":
        kind = source.randrange(256)
        body = bytes(source.randrange(256) for turn in range(source.randrange(20)))
        return put(kind, name, body), model.put(kind, name, body)
    if chosen == "drop":
        return drop(name), model.drop(name)
    if chosen == "back":
        number = source.randrange(-1, len(model.stood) + 1)
        return back(number), model.back(number)
    if chosen == "get":
        return get(name), model.get(name)
    if chosen == "names":
        begin, most = source.randrange(8), source.randrange(8)
        return names(begin, most), model.names(begin, most)
    place = source.randrange(4)
    return version(place, name), model.version(place, name)


def many_calls():
    rows = [new(1)]
    for k in range(148):
        rows.append(put(k, [k % 7, k % 5], [k] * (k % 9)))
        rows.append(back(k * 5 % (2 * k + 1)) if k % 3 else version(k % 4, [k % 7, k % 5]))
    rows += [wrong_put(256, 1, 1), names(), get([1, 1])]
    return joined(rows)


class AnswersTest(unittest.TestCase):
    def test_each_answer_has_its_count_before_it(self):
        calls = joined([new(), put(7, "a", "xyz"), get("a"), get("b"), names(), version(0, "a"), back(9)])
        answered = answers(calls)
        self.assertEqual(answered, [1, 0, 1, 1, 5, 7, 1, *b"xyz", 1, -2, 6, 1, 7, 1, 3, 1, 97,
                                    6, 1, 7, 1, *b"xyz", 1, -8])
        self.assertIs(type(answered), list)
        self.assertEqual({type(number) for number in answered}, {int})

    def test_against_the_model(self):
        for seed in range(150):
            source = random.Random(seed)
            calls, wanted = [], []
            for turn in range(source.randrange(1, 4)):
                model = Model()
                calls.append(new(source.randrange(2)))
                wanted.append([0])
                for step in range(source.randrange(40)):
                    one, answer = random_step(source, model)
                    calls.append(one)
                    wanted.append(answer)
            self.assertEqual(ask(*calls), wanted, seed)

    def test_list_is_not_changed(self):
        calls = many_calls()
        before = list(calls)
        guarded = Guarded(calls)
        wanted = answers(calls)
        self.assertEqual(calls, before)
        self.assertEqual(answers(guarded), wanted)
        self.assertEqual(list(guarded), before)

    def test_changing_an_answer_changes_no_other(self):
        calls = joined([new(), put(1, "a", "xyz"), get("a"), get("a")])
        first = answers(calls)
        wanted = list(first)
        first.clear()
        self.assertEqual(answers(calls), wanted)

    def test_same_calls_same_answers(self):
        calls = many_calls()
        first = answers(calls)
        self.assertEqual(answers(calls), first)
        answers(joined([new(), put(1, "a"), put(1, [1, 1], "other")]))
        self.assertEqual(answers(calls), first)

    def test_nothing_is_printed(self):
        printed = io.StringIO()
        with contextlib.redirect_stdout(printed), contextlib.redirect_stderr(printed):
            answers(many_calls())
        self.assertEqual(printed.getvalue(), "")

    def test_many_calls_within_few_calls_in_one_another(self):
        calls = many_calls()
        wanted = answers(calls)
        depth = 0
        frame = sys._getframe()
        while frame is not None:
            depth += 1
            frame = frame.f_back
        before = sys.getrecursionlimit()
        sys.setrecursionlimit(depth + 40)
        try:
            got = answers(calls)
        finally:
            sys.setrecursionlimit(before)
        self.assertEqual(got, wanted)

    def test_long_body_in_one_list(self):
        body = [k % 256 for k in range(28000)]
        for shut in (0, 1):
            got = ask(new(shut), put(1, "a", body), put(2, "a"), back(1), get("a"), version(0, "a"))
            self.assertEqual(got[4:], [[1, 1, *body], [1, 1, 1, *body]])

    def test_refusals_in_a_row_leave_the_book(self):
        wrong = [new(2), wrong_put(-1, 1, 1), call(3, [0], []), drop("b"), back(-1), back(2), call(5, [65], []),
                 get("b"), names(-1, 1), names(0, 4097), version(-1, "a"), version(1, "a")]
        got = ask(new(), put(1, "a", "x"), *wrong, get("a"), names(), version(0, "a"), put(2, "b"))
        self.assertEqual(got[2:14], [[-8], [-8], [-8], [-2], [-8], [-8], [-8], [-2], [-8], [-8], [-8], [-2]])
        self.assertEqual(got[14:], [[1, 1, 120], [1, 1, 1, 1, 1, 97], [1, 1, 1, 120], [2]])


if __name__ == "__main__":
    unittest.main()
