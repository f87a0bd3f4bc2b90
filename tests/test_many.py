"""Many lines made by a seed: what must hold behind every call, and a second, plainer telling of the words."""

import random
import unittest

from lookafter import keepers
from tests.helper import (DIED, GAVE_UP, MOST, START_FAILED, STARTED, STOPPED, begin, die, do, fail, keeper, line, log,
                          looks, node, split, stop, things, time, tree, up, worker)

NAMES = "tree fail begin die time stop log node up".split()


class Plain:
    """The words once more, over dicts of numbers, with failing told by an error, and refusals by another."""

    class Failed(Exception):
        pass

    class Refused(Exception):
        pass

    def __init__(self):
        self.plant([keeper(0), worker(1), worker(1)])

    def plant(self, rows):
        self.told = {place + 1: row for place, row in enumerate(rows)}
        self.below = {i: [k for k in self.told if self.told[k][0] == i] for i in self.told}
        self.run, self.gone, self.fails, self.kept = {}, set(), {}, []
        self.times = {i: [] for i in self.told}
        self.runs = self.now = 0

    def start(self, i):
        if self.fails.get(i, 0):
            self.fails[i] -= 1
            self.kept.append((START_FAILED, i, 0))
            raise self.Failed(i)
        self.runs += 1
        self.run[i] = self.runs
        self.kept.append((STARTED, i, self.runs))
        self.gone -= set(self.below[i])
        self.times[i] = []
        try:
            for k in self.below[i]:
                self.start(k)
        except self.Failed:
            self.down(i, STOPPED)
            raise self.Failed(i) from None

    def down(self, i, what):
        for k in self.below[i][::-1]:
            if k in self.run:
                self.down(k, STOPPED)
        self.kept.append((what, i, self.run.pop(i)))

    def ended(self, i, how):
        kind = self.told[i][2]
        if i > 1 and kind == 2:
            self.gone.add(i)
        elif i > 1 and (kind, how) != (1, 0):
            self.again(i)

    def counted(self, i):
        return sum(t + self.told[i][5] >= self.now for t in self.times[i])

    def again(self, i):
        p = self.told[i][0]
        self.times[p].append(self.now)
        if self.counted(p) > self.told[p][4]:
            self.down(p, GAVE_UP)
            self.times[p] = []
            self.ended(p, 1)
            return
        behind = [k for k in self.below[p] if k > i]
        others = {0: [], 1: [k for k in self.below[p] if k != i], 2: behind}[self.told[p][3]]
        for k in others[::-1]:
            if k in self.run:
                self.down(k, STOPPED)
        self.gone |= {k for k in others if self.told[k][2] == 2}
        try:
            for k in sorted(others + [i]):
                if k not in self.gone:
                    self.start(k)
        except self.Failed as failed:
            self.again(failed.args[0])

    def refuse(self, number, when):
        if when:
            raise self.Refused(number)

    def tree(self, size, *numbers):
        rows = [list(numbers[first:first + 6]) for first in range(0, size, 6)]
        self.refuse(-1, size % 6 or not 1 <= len(rows) <= 14 or rows[0][:2] != [0, 1])
        self.refuse(-1, any(number > most for row in rows for number, most in zip(row[1:], (1, 2, 2, 5, 1000))))
        for place, row in enumerate(rows[1:]):
            self.refuse(-1, row[0] not in [k + 1 for k in range(place + 1) if rows[k][1]])
        self.plant(rows)
        return [len(rows)]

    def fail(self, i, n):
        self.refuse(-1, i not in self.told or n > 20)
        self.fails[i] = n
        return [0]

    def begin(self):
        self.refuse(-8, self.run)
        before = len(self.kept)
        try:
            self.start(1)
        except self.Failed:
            return [0, len(self.kept) - before]
        return [1, len(self.kept) - before]

    def die(self, i, how):
        self.refuse(-1, i not in self.told or self.told[i][1] or how > 1)
        self.refuse(-8, i not in self.run)
        before = len(self.kept)
        self.kept.append((DIED, i, self.run.pop(i)))
        self.ended(i, how)
        return [len(self.kept) - before, int(1 in self.run)]

    def time(self, t):
        self.refuse(-1, not self.now <= t <= 1000000)
        self.now = t
        return [t]

    def stop(self):
        self.refuse(-8, not self.run)
        before = len(self.run)
        self.down(1, STOPPED)
        return [before]

    def log(self, n):
        numbers = [number for thing in self.kept for number in thing][3 * n:]
        return [len(numbers) // 3] + numbers

    def node(self, i):
        self.refuse(-1, i not in self.told)
        return [self.run.get(i, 0), int(i in self.gone), self.counted(i), self.fails.get(i, 0)]

    def up(self):
        return [len(self.run)] + sorted(self.run)

    def answer(self, call):
        try:
            return getattr(self, NAMES[call[0]])(*call[1:])
        except self.Refused as refused:
            return [refused.args[0]]


def made_rows(chance):
    rows = [keeper(0, chance.randrange(3), chance.randrange(3), chance.randrange(6), chance.choice((0, 1, 3, 1000)))]
    for i in range(chance.randrange(14)):
        parent = chance.choice([k + 1 for k, row in enumerate(rows) if row[1]])
        if chance.random() < 0.4:
            rows.append(keeper(parent, chance.randrange(3), chance.randrange(3), chance.randrange(4),
                               chance.choice((0, 1, 3))))
        else:
            rows.append(worker(parent, chance.choice((0, 0, 1, 2))))
    return rows


def made_tree(chance):
    """A tree, or what is none by one number that's another, or by what is missing at its end."""
    rows = made_rows(chance)
    spoil = chance.randrange(6)
    if spoil == 0:
        chance.choice(rows)[chance.randrange(6)] = chance.choice((0, 1, 2, 3, 6, 15, 1001, MOST))
    numbers = [number for row in rows for number in row]
    if spoil == 1:
        numbers = numbers[:chance.randrange(len(numbers))]
    return [0, len(numbers)] + numbers


def made_call(chance, plain):
    """A call that has something to do, mostly: about what's there, what runs, and a time that's to come."""
    if chance.random() < 0.02:
        return made_tree(chance)
    i = chance.choice(list(plain.told))
    n = chance.choice((0, 1, 1, 1, 1, 2, 2, 3, 4, 20 if chance.random() < 0.1 else 1))
    t = plain.now + chance.choice((0, 1, 1, 2, 3))
    workers = [k for k in plain.run if not plain.told[k][1]]
    dying = die(chance.choice(workers), chance.choice((0, 1, 1))) if workers else begin()
    if chance.random() < 0.1:
        i = chance.choice((0, len(plain.told) + 1, MOST))
        n = chance.choice((21, MOST))
        t = chance.choice((0, plain.now - 1 if plain.now else MOST, 1000001, MOST))
        dying = die(chance.choice((i, 1, 2, 3)), chance.choice((0, 1, 2, MOST)))
    calls = [dying] * 12 + [fail(i, n)] * 4 + [time(t)] * 3 + [node(i)] * 2
    calls += [begin(), stop(), up(), log(n), log(chance.randrange(200))]
    return chance.choice(calls)


def made_calls(chance):
    plain = Plain()
    calls = [tree(*made_rows(chance)), begin()] if chance.random() < 0.9 else []
    for call in calls:
        plain.answer(call)
    while len(calls) < 60:
        calls.append(made_call(chance, plain))
        plain.answer(calls[-1])
    return calls


class Many(unittest.TestCase):
    def test_as_the_plain_telling(self):
        refused, answered_otherwise = set(), set()
        for seed in range(600):
            calls = made_calls(random.Random(seed))
            plain, stand = Plain(), keepers.Tree()
            answered = split(keepers.answers(line(*calls)))
            self.assertEqual(len(answered), 60)
            for call, answer in zip(calls, answered):
                self.assertEqual(answer, plain.answer(call), (seed, call))
                self.assertEqual(answer, do(stand, call), (seed, call))
                for look in looks(len(plain.told)):
                    self.assertEqual(do(stand, look), plain.answer(look), (seed, call, look))
                self.hold(stand, plain.told, seed)
                (refused if answer[0] < 0 else answered_otherwise).add((NAMES[call[0]], min(answer[0], 0)))
        self.assertEqual({name for name, answer in answered_otherwise}, set(NAMES))
        self.assertEqual(refused, {("tree", -1), ("fail", -1), ("begin", -8), ("die", -1), ("die", -8), ("time", -1),
                                   ("stop", -8), ("node", -1)})

    def hold(self, stand, told, seed):
        """All stands as planned, or all is down; and nothing was begun again oftener than may be."""
        running = do(stand, up())[1:]
        self.assertEqual(running, self.replayed(things(do(stand, log())), told), seed)
        if 1 not in running:
            self.assertEqual(running, [], seed)
        for i, (parent, keeps, kind, way, often, span) in told.items():
            run, gone, counted, failing = do(stand, node(i))
            if run:
                self.assertTrue(i == 1 or parent in running, seed)
                self.assertEqual(gone, 0, seed)
                self.assertLessEqual(counted, often if keeps else 0, seed)
            elif parent in running:
                self.assertTrue(kind == 1 and not gone or kind == 2 and gone, seed)

    def replayed(self, happened, told):
        """Who runs by what happened, each thing looked at as it comes."""
        runs = {}
        last = 0
        for what, who, run in happened:
            parent, keeps = told[who][:2]
            below = [k for k in runs if told[k][0] == who]
            if what == STARTED:
                last += 1
                self.assertTrue(who == 1 or parent in runs)
                self.assertEqual((run, below, who in runs), (last, [], False))
                runs[who] = run
            elif what == START_FAILED:
                self.assertEqual((run, who in runs), (0, False))
            else:
                self.assertEqual((runs.pop(who), below), (run, []))
                self.assertEqual(keeps, {DIED: 0, GAVE_UP: 1}.get(what, keeps))
        return sorted(runs)


if __name__ == "__main__":
    unittest.main()
