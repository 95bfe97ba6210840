"""What the tests of the calls have in common."""

import unittest

from tests.lines import SEEN, ask


class RefusalCase(unittest.TestCase):
    def told(self, calls, expected, before=()):
        """Behind the calls before, these answer so."""
        lists = ask(list(before) + calls)
        self.assertEqual(lists[len(before):], expected)

    def changes_nothing(self, before, call):
        """Neither the valley nor what can be taken back or done again."""
        with_it = ask(before + [call] + SEEN)
        without = ask(before + SEEN)
        self.assertEqual(with_it[len(before) + 1:], without[len(before):])

    def refused(self, before, call, number):
        """One number alone is answered, and all is as it was."""
        self.told([call], [[number]], before=before)
        self.changes_nothing(before, call)
