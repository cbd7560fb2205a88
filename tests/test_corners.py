"""The corners that the document names behind its promises."""

import unittest

from lines import ALL, ALONE, ANEW, BEHIND, ENDING, KEEPING, LOOK, NEVER, OVER, QUIET, STOP, TICK
from lines import begin, ended, halt, last, over, run, seen, start, told


class TwoThatEndAtOnce(unittest.TestCase):
    def test_alone_each_is_begun_and_noted(self):
        self.assertEqual(
            run(start(way=ALONE), ended(0), ended(2), LOOK)[1:],
            [told(begin(0)), told(begin(2)), seen(KEEPING, (0, 1, 2), notes=2)],
        )

    def test_all_only_the_first_is_noted(self):
        self.assertEqual(
            run(start(way=ALL), ended(0), ended(1), LOOK, ended(2), LOOK)[1:],
            [told(halt(2)), QUIET, seen(ANEW, (), 2, 1), told(begin(0), begin(1), begin(2)),
             seen(KEEPING, (0, 1, 2), notes=1)],
        )

    def test_behind_the_later_one_first(self):
        self.assertEqual(
            run(start(way=BEHIND), ended(1), ended(0), LOOK, ended(2), LOOK)[1:],
            [told(halt(2)), QUIET, seen(ANEW, (), 2, 2), told(begin(0), begin(1), begin(2)),
             seen(KEEPING, (0, 1, 2), notes=2)],
        )

    def test_behind_the_earlier_one_first(self):
        self.assertEqual(
            run(start(way=BEHIND), ended(0), ended(1), LOOK, ended(2), LOOK)[1:],
            [told(halt(2)), QUIET, seen(ANEW, (), 2, 1), told(begin(0), begin(1), begin(2)),
             seen(KEEPING, (0, 1, 2), notes=1)],
        )


class TheOneBeingStoppedEndsByItself(unittest.TestCase):
    def test_beginning_anew_whatever_its_how_and_why(self):
        for how in range(3):
            for why in (0, 1):
                plan = start(way=ALL, most=1, how=(0, 0, how))
                with self.subTest(how=how, why=why):
                    self.assertEqual(
                        run(plan, ended(0), ended(2, why), ended(1, why), LOOK)[1:],
                        [told(halt(2)), told(halt(1)), told(begin(0), begin(1), begin(2)),
                         seen(KEEPING, (0, 1, 2), notes=1)],
                    )

    def test_its_ticks_left_are_not_the_next_ones(self):
        plan = start(way=ALL, how=(0, 0, 0), patience=(3, 2, 3))
        self.assertEqual(
            run(plan, ended(0), TICK, TICK, ended(2), TICK, TICK)[4:], [told(halt(1)), QUIET, told(halt(1, 1))])

    def test_ending(self):
        self.assertEqual(run(start(), STOP, ended(2, 9), LOOK)[2:], [told(halt(1)), seen(ENDING, (0,), 1)])

    def test_stopped_hard(self):
        plan = start(patience=(0, 0, 1))
        self.assertEqual(
            run(plan, STOP, TICK, ended(2), LOOK)[2:],
            [told(halt(2, 1)), told(halt(1, 1)), seen(ENDING, (0,), 1)],
        )


class AMarkedOneEndsBeforeItIsAsked(unittest.TestCase):
    def test_it_is_not_asked_nor_noted_but_begun(self):
        for how in range(3):
            plan = start(way=BEHIND, how=(0, how, 0, 0), patience=[3] * 4)
            with self.subTest(how=how):
                self.assertEqual(
                    run(plan, ended(0), ended(1, 1), LOOK, ended(3), ended(2), LOOK)[1:],
                    [told(halt(3)), QUIET, seen(ANEW, (2,), 3, 1), told(halt(2)),
                     told(begin(0), begin(1), begin(2), begin(3)), seen(KEEPING, range(4), notes=1)],
                )


class MostIsNothing(unittest.TestCase):
    def test_the_first_to_be_begun_anew_ends_it(self):
        for way in (ALONE, ALL, BEHIND):
            with self.subTest(way=way):
                self.assertEqual(
                    run(start(way=way, most=0), ended(1), LOOK, ended(2), ended(0), LOOK)[1:],
                    [told(halt(2)), seen(ENDING, (0,), 2, 1), told(halt(0)), told(over(1)), seen(OVER, (), notes=1)],
                )

    def test_the_only_one(self):
        self.assertEqual(last(start(most=0, how=(0,)), ended(0)), told(over(1)))

    def test_what_is_not_begun_anew_does_not_end_it(self):
        self.assertEqual(last(start(most=0, how=(NEVER, 0)), ended(0), LOOK), seen(KEEPING, (1,)))


class ANoteJustWithinTicksBack(unittest.TestCase):
    def test_it_is_dropped_and_one_tick_less_it_is_not(self):
        for within in (1, 2, 3, 10, 100, 3000):
            plan = start(most=1, within=within)
            with self.subTest(within=within):
                self.assertEqual(
                    run(plan, ended(1), *[TICK] * within, ended(1), LOOK)[-2:],
                    [told(begin(1)), seen(KEEPING, (0, 1, 2), notes=1)],
                )
                self.assertEqual(
                    run(plan, ended(1), *[TICK] * (within - 1), ended(1), LOOK)[-2:],
                    [told(halt(2)), seen(ENDING, (0,), 2, 2)],
                )
                self.assertEqual(
                    run(plan, ended(1), *[TICK] * (within + 1), ended(1), LOOK)[-2:],
                    [told(begin(1)), seen(KEEPING, (0, 1, 2), notes=1)],
                )

    def test_it_is_dropped_for_each_way(self):
        for way in (ALL, BEHIND):
            plan = start(way=way, most=1, within=4, how=(0,))
            with self.subTest(way=way):
                self.assertEqual(last(plan, ended(0), *[TICK] * 4, ended(0)), told(begin(0)))
                self.assertEqual(last(plan, ended(0), *[TICK] * 3, ended(0)), told(over(1)))


class OneThatIsNeverBegunAnewInTheMiddle(unittest.TestCase):
    def test_stopped_with_the_others_it_is_begun_with_them(self):
        for way in (ALL, BEHIND):
            plan = start(way=way, how=(0, NEVER, 0))
            with self.subTest(way=way):
                self.assertEqual(
                    run(plan, ended(0), ended(2), ended(1), LOOK)[1:],
                    [told(halt(2)), told(halt(1)), told(begin(0), begin(1), begin(2)),
                     seen(KEEPING, (0, 1, 2), notes=1)],
                )


class StoppedWhileBeginningAnew(unittest.TestCase):
    def test_the_one_being_stopped_is_waited_for_and_nothing_is_begun(self):
        for way in (ALL, BEHIND):
            with self.subTest(way=way):
                self.assertEqual(
                    run(start(way=way), ended(0), STOP, LOOK, ended(2), ended(1), LOOK)[2:],
                    [QUIET, seen(ENDING, (1,), 2, 1), told(halt(1)), told(over(0)), seen(OVER, (), notes=1)],
                )

    def test_what_was_not_marked_is_stopped_too(self):
        plan = start(way=BEHIND)
        self.assertEqual(
            run(plan, ended(1), STOP, ended(2), ended(0))[2:], [QUIET, told(halt(0)), told(over(0))])

    def test_the_ticks_left_stay(self):
        plan = start(way=ALL, patience=(3, 3, 3))
        self.assertEqual(
            run(plan, ended(0), TICK, STOP, TICK, TICK, TICK)[3:], [QUIET, QUIET, told(halt(2, 1)), QUIET])

    def test_being_stopped_hard(self):
        plan = start(way=ALL, patience=(3, 3, 0))
        self.assertEqual(
            run(plan, ended(0), STOP, TICK, LOOK, ended(2))[2:],
            [QUIET, QUIET, seen(ENDING, (1,), 2, 1), told(halt(1))],
        )


class NoPatience(unittest.TestCase):
    def test_it_is_stopped_hard_at_once_and_ticks_tell_nothing(self):
        plan = start(patience=(0, 0, 0))
        self.assertEqual(
            run(plan, STOP, TICK, TICK, LOOK, ended(2), ended(1), ended(0))[1:],
            [told(halt(2, 1)), QUIET, QUIET, seen(ENDING, (0, 1), 2), told(halt(1, 1)), told(halt(0, 1)),
             told(over(0))],
        )

    def test_beginning_anew(self):
        plan = start(way=ALL, patience=(0, 0, 0))
        self.assertEqual(
            run(plan, ended(1), ended(2), ended(0))[1:],
            [told(halt(2, 1)), told(halt(0, 1)), told(begin(0), begin(1), begin(2))],
        )


if __name__ == "__main__":
    unittest.main()
