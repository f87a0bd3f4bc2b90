"""Many lines made by a seed: what must hold behind every call, and a second, plainer telling of the words."""

import random
import unittest

from lookafter import keepers
from tests.helper import (DIED, GAVE_UP, START_FAILED, STARTED, STOPPED, begin, die, do, fail, keeper, line, running,
                          split, time, tree, worker)


class Plain:
    """The words once more, over dicts of numbers, with failing told by an error."""

    class Failed(Exception):
        pass

    def __init__(self, rows):
        self.told = {place + 1: row for place, row in enumerate(rows)}
        self.below = {i: [k for k in self.told if self.told[k][0] == i] for i in self.told}
        self.run, self.gone, self.fails, self.log = {}, set(), {}, []
        self.times = {i: [] for i in self.told}
        self.runs = self.now = 0

    def start(self, i):
        if self.fails.get(i, 0):
            self.fails[i] -= 1
            self.log.append((START_FAILED, i, 0))
            raise self.Failed(i)
        self.runs += 1
        self.run[i] = self.runs
        self.log.append((STARTED, i, self.runs))
        self.gone -= set(self.below[i])
        self.times[i] = []
        try:
            for k in self.below[i]:
                self.start(k)
        except self.Failed:
            self.down(i, STOPPED)
            raise self.Failed(i) from None

    def down(self, i, what):
        for k in self.below[i][::-1]:
            if k in self.run:
                self.down(k, STOPPED)
        self.log.append((what, i, self.run.pop(i)))

    def ended(self, i, how):
        kind = self.told[i][2]
        if i > 1 and kind == 2:
            self.gone.add(i)
        elif i > 1 and (kind, how) != (1, 0):
            self.again(i)

    def again(self, i):
        p = self.told[i][0]
        way, often, span = self.told[p][3:]
        self.times[p].append(self.now)
        if sum(t + span >= self.now for t in self.times[p]) > often:
            self.down(p, GAVE_UP)
            self.times[p] = []
            self.ended(p, 1)
            return
        behind = [k for k in self.below[p] if k > i]
        others = {0: [], 1: [k for k in self.below[p] if k != i], 2: behind}[way]
        for k in others[::-1]:
            if k in self.run:
                self.down(k, STOPPED)
        self.gone |= {k for k in others if self.told[k][2] == 2}
        try:
            for k in sorted(others + [i]):
                if k not in self.gone:
                    self.start(k)
        except self.Failed as failed:
            self.again(failed.args[0])

    def begin(self):
        before = len(self.log)
        try:
            self.start(1)
        except self.Failed:
            return [0, len(self.log) - before]
        return [1, len(self.log) - before]

    def die(self, i, how):
        before = len(self.log)
        self.log.append((DIED, i, self.run.pop(i)))
        self.ended(i, how)
        return [len(self.log) - before, int(1 in self.run)]

    def answer(self, call):
        number, told = call[0], call[1:]
        if number == 1:
            self.fails[told[0]] = told[1]
            return [0]
        if number == 2:
            return [-8] if 1 in self.run else self.begin()
        if number == 3 and self.told[told[0]][1]:
            return [-1]
        if number == 3:
            return self.die(*told) if told[0] in self.run else [-8]
        if told[0] < self.now:
            return [-1]
        self.now = told[0]
        return [self.now]


def made_rows(chance):
    rows = [keeper(0, chance.randrange(3), chance.randrange(3), chance.randrange(6), chance.choice((0, 1, 3, 1000)))]
    for i in range(chance.randrange(14)):
        parent = chance.choice([k + 1 for k, row in enumerate(rows) if row[1]])
        if chance.random() < 0.4:
            rows.append(keeper(parent, chance.randrange(3), chance.randrange(3), chance.randrange(4),
                               chance.choice((0, 1, 3))))
        else:
            rows.append(worker(parent, chance.choice((0, 0, 1, 2))))
    return rows


def made_calls(chance, rows):
    calls = []
    now = 0
    for i in range(59):
        now += chance.choice((0, 0, 0, 1, 2))
        node = chance.randrange(len(rows)) + 1
        calls.append(chance.choice((
            begin(), die(node, chance.randrange(2)), die(node), die(node), fail(node, chance.randrange(4)), time(now))))
    return calls


class Many(unittest.TestCase):
    def test_as_the_plain_telling(self):
        for seed in range(400):
            chance = random.Random(seed)
            rows = made_rows(chance)
            calls = made_calls(chance, rows)
            plain, stand = Plain(rows), keepers.Tree()
            do(stand, tree(*rows))
            answered = split(keepers.answers(line(tree(*rows), *calls)))
            self.assertEqual(answered[0], [len(rows)])
            for call, answer in zip(calls, answered[1:]):
                self.assertEqual(plain.answer(call), answer, (seed, call))
                self.assertEqual(do(stand, call), answer, (seed, call))
                self.assertEqual(stand.happened, plain.log, (seed, call))
                self.assertEqual({node.number for node in stand.nodes if node.gone}, plain.gone, (seed, call))
                self.hold(stand, seed)

    def hold(self, stand, seed):
        """All stands as planned, or all is down; and nothing was begun again oftener than may be."""
        up = running(stand)
        self.assertEqual(up, self.replayed(stand), seed)
        if 1 not in up:
            self.assertEqual(up, [], seed)
        for node in stand.nodes:
            if node.run and node.parent:
                self.assertTrue(node.parent.run, seed)
            elif node.parent and node.parent.run:
                self.assertTrue(node.kind == 1 or node.kind == 2 and node.gone, seed)
            if node.run:
                recent = [moment for moment in node.times if stand.now - moment <= node.span]
                self.assertLessEqual(len(recent), node.often, seed)

    def replayed(self, stand):
        """Who runs by what happened, each thing looked at as it comes."""
        runs = {}
        last = 0
        for what, who, run in stand.happened:
            node = stand.nodes[who - 1]
            below = [child.number for child in node.children if child.number in runs]
            if what == STARTED:
                last += 1
                self.assertTrue(node.parent is None or node.parent.number in runs)
                self.assertEqual((run, below, who in runs), (last, [], False))
                runs[who] = run
            elif what == START_FAILED:
                self.assertEqual((run, who in runs), (0, False))
            else:
                self.assertEqual((runs.pop(who), below), (run, []))
                self.assertEqual(node.keeper, {DIED: False, GAVE_UP: True}.get(what, node.keeper))
        return sorted(runs)


if __name__ == "__main__":
    unittest.main()
