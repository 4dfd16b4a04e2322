"""What holds for every call, looked at whenever a test makes one."""

import unittest


class Unchanging(list):
    """A list that fails the test when it is changed."""

    def changed(self, *args, **kwargs):
        raise AssertionError("the list handed in was changed")

    append = extend = insert = pop = remove = clear = sort = reverse = changed
    __setitem__ = __delitem__ = __iadd__ = __imul__ = changed


class Calls(unittest.TestCase):
    def answer(self, call, *handed):
        """What the call answers: a list of whole numbers, the same one again, with nothing handed in changed."""
        before = [list(value) if isinstance(value, list) else value for value in handed]
        told = call(*handed)
        self.assertTrue(list(handed) == before, "what was handed in was changed")
        self.assertIs(type(told), list)
        self.assertEqual({type(number) for number in told}, {int})
        kept = list(told)
        told.append(7)
        guarded = [Unchanging(value) if isinstance(value, list) else value for value in handed]
        self.assertEqual(call(*guarded), kept, "the same call gave another answer")
        return kept

    def answers(self, wanted, call, *handed):
        told = self.answer(call, *handed)
        if told != wanted:
            shown = [bytes(value) if isinstance(value, list) else value for value in handed]
            self.fail(f"{call.__name__}{tuple(shown)!r} answered {told}, not {wanted}"[:4000])
