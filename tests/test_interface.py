"""How calls and answers stand in their lists, and that nothing is changed, kept, printed or read."""

import contextlib
import inspect
import io
import unittest

from asking import LONGEST, MOST, alt, block, call, cost, flat, init, is_run, loop, nth, often, seq, slack, stack, time
from longestrundesk import programs
from longestrundesk.programs import UnknownCall, answers

MIXED = flat([block(5), block(65536), seq(0, 0), alt(0, 9), init(), block(7), loop(0, 0, 3), call(1, 65535),
              cost(0, 2), cost(1, 2), seq(2, MOST), block(9), alt(2, 3), time(4, 0), time(4, 1), often(4, 0, 0),
              often(4, 0, MOST), stack(4), slack(4, 0), slack(1, 3), nth(4, 0), nth(4, 1), is_run(4, [0, 0]),
              is_run(4, []), is_run(4, [0] * 25), is_run(4, [3]), time(9, 9), cost(0, 3), time(4), slack(4, 3)])


class ReadOnly(list):
    """A list that fails as soon as anything in it is changed, for a while too."""

    def changed(self, *args, **kwargs):
        raise AssertionError("what was handed in was changed")

    append = extend = insert = pop = remove = clear = sort = reverse = changed
    __setitem__ = __delitem__ = __iadd__ = __imul__ = changed


class Form(unittest.TestCase):
    def test_one_parameter_called_calls(self):
        self.assertEqual(list(inspect.signature(answers).parameters), ["calls"])
        self.assertEqual(answers(calls=[0]), [3, 0, 0, 0])

    def test_three_numbers_an_answer_behind_how_many_they_are(self):
        self.assertEqual(answers([0]), [3, 0, 0, 0])
        self.assertEqual(answers([1, 5, 1, 6]), [3, 0, 0, 0, 3, 1, 0, 0])

    def test_a_refusal_is_three_numbers_too(self):
        self.assertEqual(answers([1, 65536]), [3, -1, 0, 0])
        self.assertEqual(answers(flat(LONGEST + [seq(3, 0)]))[-4:], [3, -2, 0, 0])

    def test_each_call_takes_its_own_numbers_and_no_more(self):
        calls = [1, 5, 2, 0, 0, 3, 0, 1, 4, 2, 0, 6, 5, 3, 6, 6, 0, 3, 0, 1, 1]
        told = [3, 0, 0, 0, 3, 1, 0, 0, 3, 2, 0, 0, 3, 3, 0, 0, 3, 4, 0, 0, 3, 0, 0, 0, 3, 0, 0, 0, 3, 0, 0, 0]
        self.assertEqual(answers(calls), told)

    def test_a_refused_call_takes_its_numbers_too(self):
        calls = [2, 1, 1, 3, 1, 1, 4, 1, 1, 1, 5, 1, 1, 6, 1, 1, 1, 65536, 1, 1]
        self.assertEqual(answers(calls), [3, -1, 0, 0] * 6 + [3, 0, 0, 0])

    def test_what_is_asked_takes_its_own_numbers_and_no_more(self):
        calls = [1, 5, 4, 0, 0, 3, 7, 1, 0, 7, 1, 7, 8, 1, 0, 0, 8, 1, 0, 12, 9, 1, 10, 1, 0, 11, 1, 2, 12, 1, 0,
                 12, 1, 3, 0, 0, 0, 12, 1, 1, 12, 1, 5]
        told = [0, 1, 15, 0, 3, 0, 0, 0, 0, 1, 1, 0, 2]
        self.assertEqual(answers(calls), [number for one in told for number in (3, one, 0, 0)])

    def test_what_is_asked_and_refused_takes_its_numbers_too(self):
        calls = [7, 1, 1, 8, 1, 1, 1, 9, 1, 10, 1, 1, 11, 1, 1, 12, 1, 0, 12, 1, 2, 1, 1, 12, 1, 25] + [1] * 25 + [1, 5]
        self.assertEqual(answers(calls), [3, -1, 0, 0] * 8 + [3, 0, 0, 0])
        self.assertEqual(answers([1, 5, 1, 5, 10, 0, 1, 11, 0, 1])[8:], [3, -3, 0, 0] * 2)

    def test_it_gives_back_a_list_of_whole_numbers(self):
        told = answers(list(MIXED))
        self.assertIs(type(told), list)
        self.assertEqual({type(number) for number in told}, {int})

    def test_400_calls(self):
        self.assertEqual(answers([0] * 400), [3, 0, 0, 0] * 400)
        self.assertEqual(answers([4, MOST, MOST, MOST] * 400), [3, -1, 0, 0] * 400)

    def test_a_call_of_another_number_is_turned_away(self):
        for number in (len(programs.ARGUMENT_COUNTS), 13, MOST):
            with self.assertRaises(UnknownCall):
                answers([number, 0, 0, 0])


class NothingKept(unittest.TestCase):
    def test_what_is_handed_in_stays_as_it_was(self):
        calls = list(MIXED)
        answers(calls)
        self.assertEqual(calls, MIXED)

    def test_it_is_not_changed_for_a_while_either(self):
        self.assertEqual(answers(ReadOnly(MIXED)), answers(list(MIXED)))

    def test_what_is_given_back_is_a_list_of_its_own(self):
        calls = list(MIXED)
        told = answers(calls)
        self.assertIsNot(told, calls)
        kept = list(told)
        told.clear()
        self.assertEqual(answers(calls), kept)

    def test_the_same_list_twice_is_answered_alike(self):
        calls = list(MIXED)
        self.assertEqual(answers(calls), answers(calls))
        full = [1, 1] * 65
        self.assertEqual(answers(full), answers(full))

    def test_no_program_is_there_the_next_time(self):
        answers([1, 5, 1, 6])
        self.assertEqual(answers([2, 0, 1]), [3, -1, 0, 0])
        self.assertEqual(answers([1, 5]), [3, 0, 0, 0])

    def test_nothing_is_kept_of_a_list_that_failed(self):
        with self.assertRaises(UnknownCall):
            answers([1, 5, MOST])
        self.assertEqual(answers([5, 0, 0, 1, 5]), [3, -1, 0, 0, 3, 0, 0, 0])

    def test_nothing_is_printed(self):
        out, err = io.StringIO(), io.StringIO()
        with contextlib.redirect_stdout(out), contextlib.redirect_stderr(err):
            answers(list(MIXED))
        self.assertEqual((out.getvalue(), err.getvalue()), ("", ""))

    def test_the_names_of_the_module_stay_as_they_were(self):
        before = {name: value for name, value in vars(programs).items() if name.isupper()}
        answers(list(MIXED))
        after = {name: value for name, value in vars(programs).items() if name.isupper()}
        self.assertEqual(before, after)


if __name__ == "__main__":
    unittest.main()
