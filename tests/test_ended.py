"""Promise 2: ended, and with it what's to be begun anew."""

import unittest

from lines import ALL, ALONE, ANEW, BEHIND, ENDING, IS_OFF, KEEPING, LARGEST, LOOK, NEVER, OVER, QUIET, STOP, TICK
from lines import UNLESS_WELL, WRONG, begin, ended, halt, last, over, run, seen, start, told


class EndedRefused(unittest.TestCase):
    def test_there_is_no_such_child(self):
        for count in range(1, 9):
            plan = start(how=[NEVER] * count, patience=[0] * count)
            with self.subTest(count=count):
                self.assertEqual(run(plan, ended(count - 1), ended(count))[1:], [QUIET, WRONG])
                self.assertEqual(last(plan, ended(8)), WRONG)
                self.assertEqual(last(plan, ended(LARGEST, LARGEST)), WRONG)

    def test_it_is_off(self):
        plan = start(how=(NEVER, 0))
        self.assertEqual(run(plan, ended(0), ended(0), ended(0, LARGEST))[1:], [QUIET, IS_OFF, IS_OFF])

    def test_off_and_marked(self):
        plan = start(way=ALL)
        self.assertEqual(run(plan, ended(0), ended(0), LOOK)[2:], [IS_OFF, seen(ANEW, (1,), 2, 1)])

    def test_off_while_ending(self):
        self.assertEqual(run(start(), STOP, ended(0), ended(0), LOOK)[3:], [IS_OFF, seen(ENDING, (1,), 2)])

    def test_over(self):
        plan = start(how=(0, 0), patience=(0, 0))
        ending = [plan, STOP, ended(1), ended(0)]
        self.assertEqual(
            run(*ending, ended(0), ended(1), ended(2), ended(LARGEST), LOOK)[3:],
            [told(over(0)), IS_OFF, IS_OFF, WRONG, WRONG, seen(OVER, ())],
        )


class HowAndWhy(unittest.TestCase):
    def test_always(self):
        for why in (0, 1, 2, LARGEST):
            with self.subTest(why=why):
                self.assertEqual(
                    run(start(), ended(1, why), LOOK)[1:], [told(begin(1)), seen(KEEPING, (0, 1, 2), notes=1)])

    def test_unless_the_why_is_0(self):
        plan = start(how=(UNLESS_WELL, UNLESS_WELL, UNLESS_WELL))
        self.assertEqual(run(plan, ended(1, 0), LOOK)[1:], [QUIET, seen(KEEPING, (0, 2))])
        for why in (1, 2, LARGEST):
            with self.subTest(why=why):
                self.assertEqual(
                    run(plan, ended(1, why), LOOK)[1:], [told(begin(1)), seen(KEEPING, (0, 1, 2), notes=1)])

    def test_never(self):
        plan = start(way=ALL, how=(NEVER, NEVER, NEVER))
        for why in (0, 1, LARGEST):
            with self.subTest(why=why):
                self.assertEqual(run(plan, ended(1, why), LOOK)[1:], [QUIET, seen(KEEPING, (0, 2))])

    def test_each_child_has_its_own_how(self):
        plan = start(how=(NEVER, UNLESS_WELL, 0))
        self.assertEqual(run(plan, ended(0, 1), ended(2, 0), ended(1, 0))[1:], [QUIET, told(begin(2)), QUIET])

    def test_all_may_be_off_while_it_is_keeping(self):
        plan = start(how=(NEVER, NEVER))
        self.assertEqual(last(plan, ended(0), ended(1), LOOK), seen(KEEPING, ()))


class Ways(unittest.TestCase):
    def test_alone(self):
        self.assertEqual(
            run(start(way=ALONE), ended(1), ended(0), ended(2))[1:],
            [told(begin(1)), told(begin(0)), told(begin(2))],
        )

    def test_all(self):
        self.assertEqual(
            run(start(way=ALL), ended(1), LOOK, ended(2), LOOK, ended(0), LOOK)[1:],
            [told(halt(2)), seen(ANEW, (0,), 2, 1), told(halt(0)), seen(ANEW, (), 0, 1),
             told(begin(0), begin(1), begin(2)), seen(KEEPING, (0, 1, 2), notes=1)],
        )

    def test_those_behind(self):
        plan = start(way=BEHIND, how=[0] * 4, patience=[3] * 4)
        self.assertEqual(
            run(plan, ended(1), LOOK, ended(3), LOOK, ended(2), LOOK)[1:],
            [told(halt(3)), seen(ANEW, (0, 2), 3, 1), told(halt(2)), seen(ANEW, (0,), 2, 1),
             told(begin(1), begin(2), begin(3)), seen(KEEPING, (0, 1, 2, 3), notes=1)],
        )

    def test_the_last_one_has_none_behind(self):
        self.assertEqual(last(start(way=BEHIND), ended(2)), told(begin(2)))

    def test_what_is_off_already_is_not_begun_with_the_others(self):
        for way in (ALL, BEHIND):
            plan = start(way=way, how=(0, NEVER, UNLESS_WELL, 0), patience=[1] * 4)
            with self.subTest(way=way):
                self.assertEqual(
                    run(plan, ended(1), ended(2), ended(0), ended(3), LOOK)[3:],
                    [told(halt(3)), told(begin(0), begin(3)), seen(KEEPING, (0, 3), notes=1)],
                )

    def test_with_nothing_else_on_it_is_begun_at_once(self):
        plan = start(way=ALL, how=(NEVER, 0, NEVER))
        self.assertEqual(last(plan, ended(0), ended(2), ended(1)), told(begin(1)))

    def test_one_ahead_ends_while_those_behind_are_stopped(self):
        plan = start(way=BEHIND, how=[0] * 5, patience=[3] * 5)
        self.assertEqual(
            run(plan, ended(3), ended(1), LOOK, ended(4), ended(2), LOOK)[1:],
            [told(halt(4)), QUIET, seen(ANEW, (0, 2), 4, 2), told(halt(2)),
             told(begin(1), begin(2), begin(3), begin(4)), seen(KEEPING, range(5), notes=2)],
        )

    def test_one_ahead_that_is_not_begun_anew_stays_off(self):
        plan = start(way=BEHIND, how=(NEVER, 0, 0))
        self.assertEqual(
            run(plan, ended(1), ended(0), LOOK, ended(2), LOOK)[2:],
            [QUIET, seen(ANEW, (), 2, 1), told(begin(1), begin(2)), seen(KEEPING, (1, 2), notes=1)],
        )

    def test_too_often_while_those_behind_are_stopped(self):
        plan = start(way=BEHIND, most=1, how=[0] * 4, patience=[3] * 4)
        self.assertEqual(
            run(plan, ended(2), ended(1), LOOK, ended(3), ended(0), LOOK)[1:],
            [told(halt(3)), QUIET, seen(ENDING, (0,), 3, 2), told(halt(0)), told(over(1)), seen(OVER, (), notes=2)],
        )

    def test_what_was_marked_is_marked_no_more(self):
        plan = start(way=ALL, how=(0, NEVER, 0))
        self.assertEqual(
            run(plan, ended(0), ended(2), ended(1), ended(1), LOOK, ended(0))[3:],
            [told(begin(0), begin(1), begin(2)), QUIET, seen(KEEPING, (0, 2), notes=1), told(halt(2))],
        )


class TooOften(unittest.TestCase):
    def test_each_most_is_reached_and_then_passed(self):
        for most in range(16):
            calls = [start(most=most, within=65535)] + [ended(1)] * most
            with self.subTest(most=most):
                self.assertEqual(run(*calls)[1:], [told(begin(1))] * most)
                self.assertEqual(last(*calls, LOOK), seen(KEEPING, (0, 1, 2), notes=most))
                self.assertEqual(
                    run(*calls, ended(1), LOOK, ended(2), ended(0), LOOK)[most + 1:],
                    [told(halt(2)), seen(ENDING, (0,), 2, most + 1), told(halt(0)), told(over(1)),
                     seen(OVER, (), notes=most + 1)],
                )

    def test_notes_of_all_children_count_together(self):
        self.assertEqual(
            run(start(most=2), ended(0), ended(1), ended(2))[1:], [told(begin(0)), told(begin(1)), told(halt(1))])

    def test_what_is_not_begun_anew_is_not_noted(self):
        plan = start(most=1, how=(NEVER, UNLESS_WELL, 0))
        self.assertEqual(last(plan, ended(0), ended(1), ended(2), LOOK), seen(KEEPING, (2,), notes=1))

    def test_only_old_notes_are_dropped(self):
        plan = start(most=2, within=3)
        self.assertEqual(
            run(plan, ended(0), TICK, ended(0), TICK, TICK, ended(0), LOOK, ended(0))[6:],
            [told(begin(0)), seen(KEEPING, (0, 1, 2), notes=2), told(halt(2))],
        )

    def test_notes_are_dropped_only_when_one_is_made(self):
        plan = start(within=1)
        self.assertEqual(
            run(plan, ended(0), TICK, TICK, LOOK, ended(0), LOOK)[4:],
            [seen(KEEPING, (0, 1, 2), notes=1), told(begin(0)), seen(KEEPING, (0, 1, 2), notes=1)],
        )

    def test_the_longest_within(self):
        plan = start(most=1, within=65535, how=(0,))
        from_the_first = [plan, ended(0)]
        for ticks in range(0, 3900, 1300):
            with self.subTest(ticks=ticks):
                self.assertEqual(last(*from_the_first, *[TICK] * ticks, ended(0)), told(over(1)))


class EndedWhileEnding(unittest.TestCase):
    def test_nothing_is_begun_anew_or_noted(self):
        self.assertEqual(
            run(start(), STOP, ended(0, 1), LOOK, ended(2), ended(1), LOOK)[2:],
            [QUIET, seen(ENDING, (1,), 2), told(halt(1)), told(over(0)), seen(OVER, ())],
        )


if __name__ == "__main__":
    unittest.main()
