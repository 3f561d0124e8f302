"""What all tests share: asking a function, and looking at what it did besides answering."""

import copy
import unittest

from lodge.errors import LodgeError


class AskCase(unittest.TestCase):
    def asked(self, call, *handed):
        """The answer of the call; what was handed in must be as before, answered or refused."""
        # repr, since 1 == True.
        before = repr(handed)
        try:
            return call(*handed)
        finally:
            self.assertEqual(repr(handed), before)

    def tells(self, answer, call, *handed):
        """The call answers so, kind by kind: 1 isn't True, a tuple isn't a list."""
        self.assertEqual(repr(self.asked(call, *handed)), repr(answer), (call, handed))

    def refused(self, error, at, call, *handed):
        """The call is refused with just this error, and this field at (None: it has no such field)."""
        try:
            answer = self.asked(call, *handed)
        except LodgeError as caught:
            self.assertIs(caught.__class__, error, handed)
            self.assertEqual(repr(getattr(caught, "at", None)), repr(at), handed)
        else:
            self.fail(f"{call} answered {answer!r} for {handed!r}")

    def tells_own_lists(self, call, *handed):
        """Whatever is done to an answer, neither what was handed in nor a later answer shows it."""
        first = self.asked(call, *handed)
        kept = copy.deepcopy(first)
        lists = lists_in(first)
        self.assertEqual(len({id(each) for each in lists}), len(lists), "a list is told twice")
        before = repr(handed)
        for each in lists:
            each.reverse()
            each.append("spoilt")
        self.assertEqual(repr(handed), before)
        second = self.asked(call, *handed)
        self.assertEqual(repr(second), repr(kept))
        for each in lists:
            each.clear()
        self.assertEqual(repr(second), repr(kept))

    def keeps_answer(self, call, *handed):
        """Whatever is done to what was handed in, an answer told before doesn't show it."""
        answer = call(*handed)
        before = repr(answer)
        for each in lists_in(handed):
            each.clear()
        self.assertEqual(repr(answer), before)


def lists_in(thing):
    """Every list in a thing of lists and tuples, the thing itself among them."""
    if not isinstance(thing, (list, tuple)):
        return []
    found = [thing] if isinstance(thing, list) else []
    for within in thing:
        found.extend(lists_in(within))
    return found
