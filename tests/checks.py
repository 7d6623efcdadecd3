"""What several tests ask of an answer or of a refusal."""

import copy
import unittest


class Checks(unittest.TestCase):
    def assert_refused(self, error, told, *things):
        """Refused by an error of just this class, with nothing that was handed in changed."""
        before = copy.deepcopy(things)
        where = f"{told.__name__}{repr(things)[:300]}"
        with self.assertRaises(error, msg=where) as caught:
            told(*things)
        self.assertIs(type(caught.exception), error, where)
        self.assertEqual(things, before)

    def assert_told(self, answer, told, *things):
        """Answered so, by things of the very same kinds, again too, with nothing that was handed in changed."""
        before = copy.deepcopy(things)
        where = f"{told.__name__}{repr(things)[:300]}"
        first = told(*things)
        self.assert_alike(first, answer, where)
        self.assert_alike(told(*things), answer, where)
        self.assertEqual(things, before)
        return first

    def assert_alike(self, told, answer, where):
        self.assertIs(type(told), type(answer), where)
        self.assertEqual(told, answer, where)
        if isinstance(answer, (list, tuple)):
            for part, right in zip(told, answer):
                self.assert_alike(part, right, where)

    def assert_own_list(self, told, *things):
        """What is done to a told list changes no other answer."""
        right = copy.deepcopy(told(*things))
        first = told(*things)
        other = told(*things)
        first.append(99)
        first.reverse()
        self.assertEqual(other, right)
        other.clear()
        self.assertEqual(told(*things), right)
