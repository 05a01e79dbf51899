"""What holds for each call, whatever it answers: for tests to take in."""

import builtins
import contextlib
import io
from unittest import mock


class Untouchable(list):
    """A list that fails the test that tries to change it, be it for a while."""

    def refuse(self, *args, **kwargs):
        raise AssertionError("what is handed in was changed")

    append = extend = insert = remove = pop = clear = sort = reverse = refuse
    __setitem__ = __delitem__ = __iadd__ = __imul__ = refuse


class Conduct:
    """Mixed into a test case that has `call` (the function) and `cases` (of each call the lists to hand in)."""

    def ask(self, lists):
        return self.call(*[list(row) for row in lists])

    def test_what_is_handed_in_is_not_changed(self):
        for lists in self.cases():
            handed = [Untouchable(row) for row in lists]
            self.call(*handed)
            self.assertEqual([list(row) for row in handed], [list(row) for row in lists])

    def test_a_second_call_answers_the_same(self):
        for lists in self.cases():
            handed = [list(row) for row in lists]
            first = self.call(*handed)
            kept = list(first)
            # Whoever asked may do with the answer what he likes.
            first.append("changed")
            first[0] = "changed"
            self.assertEqual(self.call(*handed), kept)

    def test_calls_between_change_nothing(self):
        cases = self.cases()
        onward = [self.ask(lists) for lists in cases]
        backward = [self.ask(lists) for lists in reversed(cases)]
        self.assertEqual(onward, backward[::-1])

    def test_answers_are_lists_of_whole_numbers(self):
        for lists in self.cases():
            answer = self.ask(lists)
            self.assertIs(type(answer), list)
            for number in answer:
                self.assertIs(type(number), int)

    def test_nothing_is_printed_read_or_imported(self):
        def refuse(*args, **kwargs):
            raise AssertionError("something was read or imported")

        printed = io.StringIO()
        with contextlib.redirect_stdout(printed), contextlib.redirect_stderr(printed):
            for lists in self.cases():
                with mock.patch.object(builtins, "open", refuse), \
                        mock.patch.object(builtins, "input", refuse), \
                        mock.patch.object(builtins, "__import__", refuse):
                    self.ask(lists)
        self.assertEqual(printed.getvalue(), "")
