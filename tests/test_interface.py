"""The interface: how calls and answers are written, and what's left as it was."""

import contextlib
import io
import unittest

import childkeep.keeper
from childkeep.keeper import answers
from lines import ALL, BEHIND, LARGEST, LOOK, NEVER, QUIET, STOP, TICK
from lines import begin, ended, joined, run, start, told

LINE = joined([
    start(way=ALL, most=1, within=3, patience=(0, 1, 2), filler=LARGEST), LOOK, ended(0, 1), TICK, start(way=3),
    ended(2), LOOK, ended(1), STOP, TICK, STOP, ended(7), ended(2), ended(2), ended(1), ended(0), LOOK, TICK, LOOK,
])


class OnlyRead(list):
    """A list that can't be changed, not for a while either."""

    def refuse(self, *arguments, **named):
        raise AssertionError("the list handed in was changed")

    append = extend = insert = pop = remove = clear = sort = reverse = refuse
    __setitem__ = __delitem__ = __iadd__ = __imul__ = refuse


class Answers(unittest.TestCase):
    def test_a_start(self):
        calls = [0, 0, 1, 5, 2, 8, 0, 1, 0, 0, 0, 0, 0, 0, 8, 3, 3, 0, 0, 0, 0, 0, 0]
        self.assertEqual(answers(calls), [8, 0, 2, 0, 0, 0, 0, 1, 0])

    def test_a_refusal_is_followed_by_0(self):
        self.assertEqual(answers(start(way=3)), [2, -22, 0])
        self.assertEqual(answers(joined([start(how=(NEVER,)), ended(1)]))[6:], [2, -22, 0])
        self.assertEqual(answers(joined([start(how=(NEVER,)), ended(0), ended(0)]))[6:], [2, 0, 0, 2, -2, 0])
        self.assertEqual(answers(joined([start(how=(NEVER,)), STOP, STOP]))[6:], [5, 0, 1, 1, 0, 0, 2, -11, 0])

    def test_each_call(self):
        first = start(way=ALL, most=1, how=(0, 0), patience=(0, 1))
        self.assertEqual(
            answers(joined([first, LOOK, ended(0), LOOK, TICK, ended(1), STOP, LOOK, ended(1), ended(0), LOOK])),
            [8, 0, 2, 0, 0, 0, 0, 1, 0,
             6, 0, 0, 0, 3, 0, 0,
             5, 0, 1, 1, 1, 0,
             6, 0, 0, 1, 0, 2, 1,
             5, 0, 1, 1, 1, 1,
             8, 0, 2, 0, 0, 0, 0, 1, 0,
             5, 0, 1, 1, 1, 0,
             6, 0, 0, 2, 1, 2, 1,
             5, 0, 1, 1, 0, 1,
             5, 0, 1, 2, 0, 0,
             6, 0, 0, 3, 0, 0, 1],
        )

    def test_the_why_of_being_over(self):
        self.assertEqual(answers(joined([start(most=0, how=(0,)), ended(0)]))[6:], [5, 0, 1, 2, 1, 0])

    def test_a_list_of_plain_whole_numbers_is_given_back(self):
        given = answers(list(LINE))
        self.assertIs(type(given), list)
        self.assertEqual({type(number) for number in given}, {int})

    def test_numbers_up_to_the_largest(self):
        self.assertEqual(
            run(start(filler=LARGEST), ended(0, LARGEST), ended(LARGEST, LARGEST), ended(LARGEST, 0))[1:],
            [told(begin(0)), (-22, []), (-22, [])],
        )
        self.assertEqual(answers([0] + [LARGEST] * 4 + [8] + [LARGEST] * 8 + [8] + [LARGEST] * 8), [2, -22, 0])


class HandedIn(unittest.TestCase):
    def test_the_list_is_the_same_afterwards(self):
        calls = list(LINE)
        answers(calls)
        self.assertEqual(calls, LINE)

    def test_the_list_is_not_changed_for_a_while_either(self):
        self.assertEqual(answers(OnlyRead(LINE)), answers(list(LINE)))

    def test_what_is_given_back_is_new_each_time(self):
        calls = list(LINE)
        first = answers(calls)
        kept = list(first)
        first.clear()
        self.assertEqual(answers(calls), kept)


class NothingKept(unittest.TestCase):
    def test_a_second_time_answers_the_same(self):
        calls = list(LINE)
        first = answers(calls)
        answers(joined([start(way=BEHIND, most=0), ended(1), TICK]))
        self.assertEqual(answers(calls), first)
        self.assertEqual(answers(calls), first)

    def test_nothing_is_printed(self):
        out, err = io.StringIO(), io.StringIO()
        with contextlib.redirect_stdout(out), contextlib.redirect_stderr(err):
            answers(list(LINE))
        self.assertEqual((out.getvalue(), err.getvalue()), ("", ""))

    def test_the_function_is_where_the_document_says(self):
        self.assertIs(childkeep.keeper.answers, answers)


class LongLists(unittest.TestCase):
    def test_4000_calls(self):
        calls = [start(way=ALL, most=15, within=1, patience=(0, 0, 0))]
        calls += [ended(0), ended(2), ended(1), TICK] * 999 + [LOOK, STOP, LOOK]
        self.assertEqual(len(calls), 4000)
        found = run(*calls)
        self.assertEqual(len(found), 4000)
        self.assertEqual(found[1:5] * 999, found[1:3997])
        self.assertEqual(found[3], told(begin(0), begin(1), begin(2)))

    def test_4000_calls_of_each_kind(self):
        first = start(how=(0,), within=1)
        self.assertEqual(run(first, *[TICK] * 3999)[1:], [QUIET] * 3999)
        self.assertEqual(run(first, *[LOOK] * 3999)[1:], [(0, [], [0, 1, 0, 0])] * 3999)
        self.assertEqual(run(first, STOP, *[STOP] * 3998)[2:], [(-11, [])] * 3998)
        self.assertEqual(run(first, *[ended(1)] * 3999)[1:], [(-22, [])] * 3999)
        self.assertEqual(run(first, *[ended(0), TICK] * 1999)[1:], [told(begin(0)), QUIET] * 1999)

    def test_as_many_starts_as_30000_numbers_hold(self):
        eight = start(how=[0] * 8, patience=[0] * 8)
        calls = [eight] * (30000 // len(eight))
        self.assertEqual(run(*calls), [told(*[begin(child) for child in range(8)])] * len(calls))


if __name__ == "__main__":
    unittest.main()
