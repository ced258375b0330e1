"""Points 1 to 7 once more: every test of theirs, over books that were read and over such that were squeezed."""

import unittest
from unittest import mock

from tests import helper, test_changes, test_questions


class Reading:
    asked = staticmethod(helper.ask_reading)

    def setUp(self):
        for module in (helper, test_changes, test_questions):
            patch = mock.patch.object(module, "ask", self.asked)
            patch.start()
            self.addCleanup(patch.stop)


class Squeezing(Reading):
    asked = staticmethod(helper.ask_squeezing)


class NewReadingTest(Reading, test_changes.NewTest):
    pass


class PutReadingTest(Reading, test_changes.PutTest):
    pass


class DropReadingTest(Reading, test_changes.DropTest):
    pass


class BackReadingTest(Reading, test_changes.BackTest):
    pass


class GetReadingTest(Reading, test_questions.GetTest):
    pass


class NamesReadingTest(Reading, test_questions.NamesTest):
    pass


class VersionReadingTest(Reading, test_questions.VersionTest):
    pass


class NewSqueezingTest(Squeezing, test_changes.NewTest):
    pass


class PutSqueezingTest(Squeezing, test_changes.PutTest):
    pass


class DropSqueezingTest(Squeezing, test_changes.DropTest):
    pass


class BackSqueezingTest(Squeezing, test_changes.BackTest):
    pass


class FullBookSqueezingTest(Squeezing, test_changes.FullBookTest):
    pass


class GetSqueezingTest(Squeezing, test_questions.GetTest):
    pass


class NamesSqueezingTest(Squeezing, test_questions.NamesTest):
    pass


class VersionSqueezingTest(Squeezing, test_questions.VersionTest):
    pass


class AskedTest(unittest.TestCase):
    """The ways of asking do what they are there for."""

    def test_book_is_read_before_each_call(self):
        with mock.patch.object(helper, "answers_of", side_effect=helper.answers_of) as asked:
            got = helper.ask_reading(helper.new(1), helper.put(1, "a"), helper.get("a"))
        self.assertEqual(got, [[0], [1], [1, 1]])
        readings = [row for one in asked.call_args_list for row in one.args[0] if row[0] == 9]
        self.assertEqual([row[3] for row in readings], [44, 88])

    def test_book_is_squeezed_behind_each_new(self):
        with mock.patch.object(helper, "answers_of", side_effect=helper.answers_of) as asked:
            got = helper.ask_squeezing(helper.new(1), helper.put(1, "a"), helper.new(0), helper.get("a"))
        self.assertEqual(got, [[0], [1], [0], [-2]])
        self.assertEqual([row[0] for row in asked.call_args.args[0]].count(11), 2)


if __name__ == "__main__":
    unittest.main()
