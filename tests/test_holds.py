"""Promise 6, what holds: long runs of calls, with each sentence held against the answers."""

import random
import unittest

from lines import ALL, ALONE, ALWAYS, ANEW, BEHIND, ENDING, KEEPING, LOOK, NEVER, OVER, STOP, TICK
from lines import ended, halt, last, run, start


class Plan:
    def __init__(self, way, source):
        self.way = way
        self.most = source.choice((0, 1, 2, 5, 15))
        self.within = source.choice((1, 2, 3, 8, 30))
        self.count = source.randint(1, 8)
        self.how = [source.choice((0, 0, 0, 1, 2)) for child in range(self.count)]
        self.patience = [source.choice((0, 1, 2, 5)) for child in range(self.count)]

    def call(self):
        return start(self.way, self.most, self.within, self.how, self.patience)

    def wants(self, child, why):
        return self.how[child] == ALWAYS or (self.how[child] != NEVER and why != 0)


def random_calls(plan, source, length):
    """Calls behind a start; stop is rare and start comes again, so that each mode is stayed in for a while."""
    calls = [plan.call()]
    for step in range(length):
        chance = source.randint(0, 99)
        if chance < 55:
            calls.append(ended(source.randint(0, plan.count - 1), source.choice((0, 1, 7))))
        elif chance < 97:
            calls.append(TICK)
        elif chance < 98:
            calls.append(STOP)
        else:
            calls.append(plan.call())
    return calls


class Watcher:
    """Holds the answers of one line against what holds; it knows of the keeper what was told and looked at alone."""

    def __init__(self, test, plan):
        self.test = test
        self.plan = plan
        self.met = {"kept": 0, "anew": 0, "gave up": 0, "asked": 0, "begun with others": 0}
        self.begin_again(None)

    def begin_again(self, look):
        self.look = look
        self.now = 0
        self.made = []
        self.lowest = 8
        self.asked = []

    def was_on(self, child):
        return bool(self.look[1] >> child & 1)

    def is_unmarked(self, child):
        """All that are on behind a child of way 2 are marked with it, so what's on ahead of it is not."""
        return self.look[0] == KEEPING or (self.plan.way == BEHIND and child < self.lowest)

    def see(self, call, answer, look):
        if call[0] == 0:
            self.begin_again(look)
            self.hold_keeping(look)
            return
        if call == TICK:
            self.now += 1
        made = call[0] == 1 and answer[0] == 0 and self.is_noted(call[1], call[2])
        things = answer[1]
        if made:
            self.hold_notes(look)
        self.hold_asked([thing[1] for thing in things if thing[0] == 1], look)
        self.hold_begun([thing[1] for thing in things if thing[0] == 0], look)
        self.hold_keeping(look)
        self.look = look

    def is_noted(self, child, why):
        """Whether something's to be begun anew by this ending."""
        if self.look[0] in (ENDING, OVER) or not self.was_on(child):
            return False
        if not self.is_unmarked(child) or not self.plan.wants(child, why):
            return False
        self.lowest = min(self.lowest, child)
        self.made.append(self.now)
        return True

    def hold_notes(self, look):
        """Of any within ticks running at most most notes were made without its ending."""
        running = [tick for tick in self.made if tick > self.now - self.plan.within]
        self.test.assertEqual(look[3], len(running))
        self.test.assertEqual(look[0] in (ENDING, OVER), len(running) > self.plan.most)
        self.met["gave up" if len(running) > self.plan.most else "anew"] += 1

    def hold_asked(self, halted, look):
        """Children are asked from the last to the first."""
        for child in halted:
            self.test.assertEqual(look[2], child + 1)
            if self.asked and self.asked[-1] == child:
                continue
            self.test.assertTrue(not self.asked or child < self.asked[-1])
            self.test.assertTrue(self.was_on(child))
            self.test.assertEqual(look[1] >> child, 0)
            self.asked.append(child)
            self.met["asked"] += 1

    def hold_begun(self, begun, look):
        """None is begun while one of the marked is on or being stopped."""
        if not begun:
            return
        self.test.assertEqual(look[0], KEEPING)
        self.test.assertEqual(look[2], 0)
        self.test.assertEqual(begun, sorted(begun))
        on = [child for child in range(self.plan.count) if look[1] >> child & 1]
        # What's marked is, by its way, all that's on now, or what's on from the first that ended on.
        if self.plan.way == ALONE:
            self.test.assertEqual(begun, [self.lowest])
        elif self.plan.way == ALL:
            self.test.assertEqual(begun, on)
        else:
            self.test.assertEqual(begun, [child for child in on if child >= self.lowest])
        self.met["begun with others"] += len(begun) > 1

    def hold_keeping(self, look):
        """Keeping, each child that's always begun anew is on."""
        if look[0] != KEEPING:
            self.test.assertEqual(look[0] == OVER, look[2] == 0)
            return
        for child in range(self.plan.count):
            self.test.assertTrue(self.plan.how[child] != ALWAYS or look[1] >> child & 1)
        self.test.assertEqual(look[2], 0)
        self.lowest = 8
        self.asked = []
        self.met["kept"] += 1


class WhatHolds(unittest.TestCase):
    def watch(self, way, seeds):
        met = {}
        for seed in range(seeds):
            source = random.Random(1000 * way + seed)
            plan = Plan(way, source)
            calls = random_calls(plan, source, 300)
            looked = run(*[part for call in calls for part in (call, LOOK)])
            watcher = Watcher(self, plan)
            with self.subTest(way=way, seed=seed):
                for place, call in enumerate(calls):
                    watcher.see(call, looked[2 * place], looked[2 * place + 1][2])
            for name in watcher.met:
                met[name] = met.get(name, 0) + watcher.met[name]
        return met

    def test_alone(self):
        # By way 0 one child is begun at a time, never with others.
        met = self.watch(ALONE, 150)
        self.assertEqual([name for name in met if met[name] < 100], ["begun with others"])

    def test_all(self):
        self.assertEqual([count for count in self.watch(ALL, 150).values() if count < 100], [])

    def test_behind(self):
        self.assertEqual([count for count in self.watch(BEHIND, 150).values() if count < 100], [])


def mode_of(calls):
    return last(*calls, LOOK)[2][0]


def ticks_till_over(calls):
    """How many ticks it takes from here till it's over, if each that's stopped hard ends at once."""
    ticks = 0
    mode, on, stopping, notes = last(*calls, LOOK)[2]
    hard = (0, [halt(stopping - 1, 1)])
    # Whether the one that's being stopped was told to halt hard is in what was told last.
    told_last = [answer for answer in run(*calls) if answer[1]][-1]
    step = ended(stopping - 1) if told_last == hard else TICK
    line = list(calls)
    while mode_of(line) != OVER:
        if len(line) > len(calls) + 200:
            raise AssertionError("it's never over")
        line.append(step)
        ticks += step == TICK
        things = last(*line)[1]
        halted = [thing[1] for thing in things if thing[0] == 1 and thing[2] == 1]
        step = ended(halted[0]) if halted else TICK
    return ticks


class OverInTime(unittest.TestCase):
    def test_no_longer_than_all_patiences_together(self):
        met = {way: 0 for way in (ALONE, ALL, BEHIND)}
        for seed in range(90):
            source = random.Random(seed)
            plan = Plan(seed % 3, source)
            calls = random_calls(plan, source, source.randint(0, 40))
            if mode_of(calls) in (KEEPING, ANEW):
                calls.append(STOP)
            if mode_of(calls) == ENDING:
                met[plan.way] += 1
                with self.subTest(seed=seed):
                    self.assertLessEqual(ticks_till_over(calls), sum(plan.patience))
        self.assertGreater(min(met.values()), 10)

    def test_just_as_long_if_all_are_on(self):
        for way in (ALONE, ALL, BEHIND):
            for patience in ((0,), (4,), (3, 0, 5), (1, 2, 3, 4, 5, 6, 7, 8)):
                plan = start(way=way, how=[0] * len(patience), patience=patience)
                with self.subTest(way=way, patience=patience):
                    self.assertEqual(ticks_till_over([plan, STOP]), sum(patience))

    def test_giving_up(self):
        plan = start(way=ALL, most=0, how=(0, 0, 0), patience=(2, 9, 4))
        self.assertEqual(ticks_till_over([plan, ended(1)]), 6)


if __name__ == "__main__":
    unittest.main()
