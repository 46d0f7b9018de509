"""A test case for questions about maps."""

import copy
import unittest

from samples import fields
from waypapers.errors import InvalidQuestion, UnknownName


class AskingTest(unittest.TestCase):
    def assert_unknown(self, name, question, *told, **named):
        with self.assertRaises(UnknownName) as caught:
            question(*told, **named)
        self.assertEqual(caught.exception.name, name)

    def assert_invalid_question(self, question, *told, **named):
        with self.assertRaises(InvalidQuestion):
            question(*told, **named)

    def assert_nothing_changes(self, question, chart, *told):
        """Ask twice, and look whether the map and the other arguments stay as they are. Return both answers."""
        before = fields(chart)
        copies = copy.deepcopy(told)
        answers = (question(chart, *told), question(chart, *told))
        self.assertEqual(fields(chart), before)
        self.assertEqual(told, copies)
        return answers

    def assert_new_lists(self, question, chart, *told):
        """Ask, change the list that is returned, and look whether the next answer is the same all the same."""
        before = fields(chart)
        answer = question(chart, *told)
        kept = list(answer)
        answer.append("more")
        self.assertEqual(question(chart, *told), kept)
        self.assertEqual(fields(chart), before)
