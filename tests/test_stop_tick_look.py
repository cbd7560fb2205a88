"""Promises 3, 4 and 5: stop, tick and look."""

import unittest

from lines import ALL, ANEW, ENDING, KEEPING, LOOK, NEVER, OVER, QUIET, STOP, TICK, TOO_LATE
from lines import ended, halt, last, over, run, seen, start, told


class Stop(unittest.TestCase):
    def test_all_are_stopped_from_the_last_to_the_first(self):
        self.assertEqual(
            run(start(), STOP, LOOK, ended(2), LOOK, ended(1), LOOK, ended(0), LOOK)[1:],
            [told(halt(2)), seen(ENDING, (0, 1), 2), told(halt(1)), seen(ENDING, (0,), 1), told(halt(0)),
             seen(ENDING, (), 0), told(over(0)), seen(OVER, ())],
        )

    def test_what_is_off_is_not_asked(self):
        plan = start(how=(NEVER, NEVER, NEVER))
        self.assertEqual(
            run(plan, ended(2), ended(0), STOP, ended(1))[3:], [told(halt(1)), told(over(0))])

    def test_with_none_on_it_is_over_at_once(self):
        plan = start(how=(NEVER,))
        self.assertEqual(run(plan, ended(0), STOP, LOOK)[2:], [told(over(0)), seen(OVER, ())])

    def test_refused_while_ending_for_0(self):
        self.assertEqual(run(start(), STOP, STOP, LOOK)[2:], [TOO_LATE, seen(ENDING, (0, 1), 2)])

    def test_refused_while_ending_for_1_which_stays_the_why(self):
        self.assertEqual(
            run(start(most=0), ended(2), STOP, ended(1), ended(0), STOP)[2:],
            [TOO_LATE, told(halt(0)), told(over(1)), TOO_LATE],
        )

    def test_refused_when_over(self):
        plan = start(how=(0,))
        self.assertEqual(run(plan, STOP, ended(0), STOP, LOOK)[2:], [told(over(0)), TOO_LATE, seen(OVER, ())])


class Tick(unittest.TestCase):
    def test_with_none_being_stopped_nothing_is_told(self):
        self.assertEqual(run(start(), *[TICK] * 20, LOOK)[1:], [QUIET] * 20 + [seen(KEEPING, (0, 1, 2))])

    def test_hard_when_the_patience_has_run_out_and_only_once(self):
        for patience in (1, 2, 3, 100):
            plan = start(how=(0,), patience=(patience,))
            with self.subTest(patience=patience):
                self.assertEqual(
                    run(plan, STOP, *[TICK] * (patience + 5))[1:],
                    [told(halt(0))] + [QUIET] * (patience - 1) + [told(halt(0, 1))] + [QUIET] * 5,
                )

    def test_the_longest_patience_that_a_line_can_see_the_end_of(self):
        plan = start(how=(0,), patience=(3998,))
        self.assertEqual(run(plan, STOP, *[TICK] * 3998)[-2:], [QUIET, told(halt(0, 1))])
        plan = start(how=(0,), patience=(65535,))
        self.assertEqual(run(plan, STOP, *[TICK] * 3998)[2:], [QUIET] * 3998)

    def test_each_child_has_its_own_patience(self):
        plan = start(patience=(1, 0, 2))
        self.assertEqual(
            run(plan, STOP, TICK, TICK, ended(2), TICK, ended(1), TICK, ended(0))[1:],
            [told(halt(2)), QUIET, told(halt(2, 1)), told(halt(1, 1)), QUIET, told(halt(0)), told(halt(0, 1)),
             told(over(0))],
        )

    def test_ticks_before_it_is_asked_do_not_use_its_patience_up(self):
        plan = start(how=(0, 0), patience=(2, 5))
        self.assertEqual(
            run(plan, TICK, TICK, STOP, TICK, TICK, TICK, ended(1), TICK, TICK)[7:],
            [told(halt(0)), QUIET, told(halt(0, 1))],
        )

    def test_while_beginning_anew(self):
        plan = start(way=ALL, patience=(3, 3, 1))
        self.assertEqual(
            run(plan, ended(0), TICK, LOOK, TICK)[1:], [told(halt(2)), told(halt(2, 1)), seen(ANEW, (1,), 2, 1), QUIET])

    def test_when_over(self):
        plan = start(how=(0,), patience=(2,))
        self.assertEqual(run(plan, STOP, ended(0), TICK, TICK, TICK, LOOK)[3:], [QUIET] * 3 + [seen(OVER, ())])


class Look(unittest.TestCase):
    def test_bits_of_all_eight(self):
        plan = start(how=[NEVER] * 8, patience=[1] * 8)
        on = list(range(8))
        calls = [plan]
        for child in (3, 0, 7, 5):
            calls.append(ended(child))
            on.remove(child)
            self.assertEqual(last(*calls, LOOK), seen(KEEPING, on))
        self.assertEqual(last(*calls, LOOK)[2][1], 0b01010110)

    def test_the_one_being_stopped_and_one_more(self):
        plan = start(how=[0] * 8, patience=[1] * 8)
        calls = [plan, STOP]
        for child in range(7, -1, -1):
            self.assertEqual(last(*calls, LOOK)[2], [2, (1 << child) - 1, child + 1, 0])
            calls.append(ended(child))
        self.assertEqual(last(*calls, LOOK)[2], [3, 0, 0, 0])

    def test_hard_or_not_looks_the_same(self):
        plan = start(patience=(1, 1, 1))
        self.assertEqual(run(plan, STOP, LOOK, TICK, LOOK)[2::2], [seen(ENDING, (0, 1), 2)] * 2)

    def test_looking_changes_nothing(self):
        calls = [start(way=ALL, most=1, within=2), ended(1), TICK, ended(0), TICK, ended(2), TICK, ended(2), STOP]
        looked = [part for call in calls for part in (call, LOOK, LOOK)]
        self.assertEqual(run(*looked)[::3], run(*calls))
        self.assertEqual(run(*looked)[1::3], run(*looked)[2::3])

    def test_when_over_the_notes_are_still_there(self):
        plan = start(most=0, how=(0,))
        self.assertEqual(run(plan, ended(0), LOOK)[1:], [told(over(1)), seen(OVER, (), notes=1)])


if __name__ == "__main__":
    unittest.main()
