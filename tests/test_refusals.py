"""Where an answer is below 0 nothing changes, and nothing is told."""

import unittest

from lines import ALL, ALONE, BEHIND, LARGEST, LOOK, NEVER, STOP, TICK, UNLESS_WELL
from lines import ended, last, run, start

WRONG_CALLS = [
    start(way=3), start(most=16), start(within=0), start(within=65536), start(count=0), start(count=9),
    start(how=(0, 0, 3)), start(patience=(0, 0, 65536)),
    start(way=LARGEST, most=LARGEST, within=LARGEST, count=LARGEST, filler=LARGEST),
    ended(5), ended(8, 1), ended(LARGEST, LARGEST),
]


def lines_of_all_ways():
    """Lines that come through every mode of the keeper, for each way."""
    for way in (ALONE, ALL, BEHIND):
        plan = start(way=way, most=2, within=4, how=(0, NEVER, UNLESS_WELL, 0, 0), patience=(0, 2, 1, 3, 0))
        calls = [plan, ended(1), TICK, ended(3), LOOK, TICK, ended(4), TICK, TICK, ended(0, 1), LOOK, TICK, ended(3)]
        calls += [ended(2, 1), LOOK, TICK, ended(0), ended(4), TICK, LOOK, ended(3), ended(2), TICK, ended(0), LOOK]
        yield calls + [STOP, TICK, ended(4), ended(3), TICK, ended(2), TICK, ended(0), LOOK, TICK, plan, LOOK]


def refused_next(calls):
    """The calls that are refused behind these: wrong ones, those of what's off, and stop if it's too late."""
    mode, on, stopping, notes = last(*calls, LOOK)[2]
    off = [child for child in range(5) if not on >> child & 1 and child + 1 != stopping]
    return [(call, -22) for call in WRONG_CALLS] + [(ended(child, 1), -2) for child in off] + (
        [(STOP, -11)] if mode >= 2 else [])


class Refusals(unittest.TestCase):
    def test_nothing_changes_wherever_they_come(self):
        kinds = set()
        for calls in lines_of_all_ways():
            plain = run(*calls)
            for place in range(1, len(calls) + 1):
                for call, number in refused_next(calls[:place]):
                    found = run(*calls[:place], call, *calls[place:])
                    self.assertEqual(found[place], (number, []))
                    self.assertEqual(found[:place] + found[place + 1:], plain)
                    kinds.add(number)
        self.assertEqual(kinds, {-22, -2, -11})

    def test_of_several_that_are_due_the_first_told_is_answered(self):
        over = [start(how=(NEVER,)), ended(0), STOP]
        self.assertEqual(last(*over, ended(1)), (-22, []))
        self.assertEqual(last(*over, ended(0)), (-2, []))


if __name__ == "__main__":
    unittest.main()
