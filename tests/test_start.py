"""Promise 1: start."""

import unittest

from lines import ALL, BEHIND, KEEPING, LARGEST, LOOK, STOP, TICK, WRONG
from lines import begin, ended, halt, last, over, run, seen, start, told


class StartRight(unittest.TestCase):
    def test_each_child_is_told_to_begin_in_order_and_is_on(self):
        for count in range(1, 9):
            with self.subTest(count=count):
                self.assertEqual(
                    run(start(how=[0] * count, patience=[1] * count), LOOK),
                    [told(*[begin(child) for child in range(count)]), seen(KEEPING, range(count))],
                )

    def test_the_last_numbers_that_are_right(self):
        right = [
            start(way=0), start(way=2), start(most=0), start(most=15), start(within=1), start(within=65535),
            start(how=(2, 2, 2)), start(patience=(65535, 65535, 65535)), start(patience=(0, 0, 0)),
        ]
        for plan in right:
            with self.subTest(plan=plan):
                self.assertEqual(last(plan), told(begin(0), begin(1), begin(2)))

    def test_the_last_child_of_eight_may_have_the_largest_numbers(self):
        plan = start(how=[2] * 8, patience=[65535] * 8)
        self.assertEqual(last(plan), told(*[begin(child) for child in range(8)]))

    def test_numbers_behind_count_do_not_count(self):
        for filler in (3, 65536, LARGEST):
            with self.subTest(filler=filler):
                self.assertEqual(last(start(how=(0,), patience=(0,), filler=filler)), told(begin(0)))
                seven = start(how=[0] * 7, patience=[0] * 7, filler=filler)
                self.assertEqual(last(seven), told(*[begin(child) for child in range(7)]))


class StartWrong(unittest.TestCase):
    def refused(self, **numbers):
        with self.subTest(**numbers):
            self.assertEqual(last(start(**numbers)), WRONG)
            self.assertEqual(run(start(), start(**numbers), LOOK)[1:], [WRONG, seen(KEEPING, (0, 1, 2))])

    def test_way(self):
        self.refused(way=3)
        self.refused(way=LARGEST)

    def test_most(self):
        self.refused(most=16)
        self.refused(most=LARGEST)

    def test_within(self):
        self.refused(within=0)
        self.refused(within=65536)
        self.refused(within=LARGEST)

    def test_count(self):
        self.refused(count=0)
        self.refused(count=9)
        self.refused(count=LARGEST)

    def test_how_of_each_child(self):
        for child in range(8):
            for wrong in (3, LARGEST):
                how = [0] * 8
                how[child] = wrong
                self.refused(how=how, patience=[0] * 8)
                self.refused(how=how[:child + 1], patience=[0] * (child + 1))

    def test_patience_of_each_child(self):
        for child in range(8):
            for wrong in (65536, LARGEST):
                patience = [0] * 8
                patience[child] = wrong
                self.refused(how=[0] * 8, patience=patience)
                self.refused(how=[0] * (child + 1), patience=patience[:child + 1])

    def test_start_may_be_refused_again_and_again_before_one_is_right(self):
        self.assertEqual(
            run(start(way=3), start(most=16), start(count=0), start(how=(0,))),
            [WRONG, WRONG, WRONG, told(begin(0))],
        )


class StartAgain(unittest.TestCase):
    def test_while_keeping_with_another_count(self):
        again = start(how=(0, 0), patience=(1, 1))
        self.assertEqual(
            run(start(), again, LOOK, ended(2))[1:],
            [told(begin(0), begin(1)), seen(KEEPING, (0, 1)), WRONG],
        )
        more = start(how=[0] * 8, patience=[1] * 8)
        self.assertEqual(last(start(), more, LOOK), seen(KEEPING, range(8)))

    def test_while_beginning_anew_nothing_is_marked_or_stopped_any_more(self):
        plan = start(way=ALL, how=(2, 0, 0))
        self.assertEqual(
            run(plan, ended(1), plan, LOOK, ended(0), LOOK)[2:],
            [told(begin(0), begin(1), begin(2)), seen(KEEPING, (0, 1, 2)), told(), seen(KEEPING, (1, 2))],
        )
        self.assertEqual(run(plan, ended(1), plan, TICK, TICK, TICK)[3:], [told()] * 3)

    def test_while_ending_and_when_over(self):
        plan = start(how=(0,), patience=(0,))
        self.assertEqual(run(plan, STOP, plan, LOOK)[2:], [told(begin(0)), seen(KEEPING, (0,))])
        self.assertEqual(run(plan, STOP, ended(0), plan, LOOK)[3:], [told(begin(0)), seen(KEEPING, (0,))])

    def test_the_why_of_an_earlier_ending_is_gone(self):
        plan = start(most=0, how=(0,))
        self.assertEqual(
            run(plan, ended(0), plan, STOP, ended(0))[1:],
            [told(over(1)), told(begin(0)), told(halt(0)), told(over(0))],
        )

    def test_nothing_is_noted_and_no_tick_was(self):
        plan = start(most=1, within=5)
        self.assertEqual(
            run(plan, ended(0), TICK, plan, LOOK, ended(0), LOOK)[3:],
            [told(begin(0), begin(1), begin(2)), seen(KEEPING, (0, 1, 2)), told(begin(0)),
             seen(KEEPING, (0, 1, 2), notes=1)],
        )

    def test_the_new_plan_is_kept_to(self):
        behind = start(way=BEHIND, how=(0, 0), patience=(7, 0))
        self.assertEqual(run(start(), behind, ended(0))[2], told(halt(1, 1)))


if __name__ == "__main__":
    unittest.main()
