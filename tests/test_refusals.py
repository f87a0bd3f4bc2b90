"""Point 2: what fail, begin, die and time refuse, and answer otherwise; and that all is as it was behind refusals."""

import unittest

from tests.helper import (MOST, after, asked, begin, die, do, fail, keeper, line, log, looks, node, state, stop, time,
                          tree, up, worker)


class Fail(unittest.TestCase):
    def test_answers_0(self):
        self.assertEqual(asked(fail(1, 0), fail(2, 1), fail(3, 20)), [[0], [0], [0]])

    def test_no_such_node(self):
        self.assertEqual(asked(fail(0, 1), fail(4, 1), fail(MOST, 0)), [[-1]] * 3)

    def test_n_above_20(self):
        self.assertEqual(asked(fail(1, 21), fail(1, MOST)), [[-1]] * 2)

    def test_both_at_once(self):
        self.assertEqual(asked(fail(0, 21), fail(4, MOST)), [[-1]] * 2)

    def test_twenty_starts_fail(self):
        calls = [fail(1, 20)] + [begin()] * 21
        self.assertEqual(asked(*calls), [[0]] + [[0, 1]] * 20 + [[1, 3]])

    def test_the_last_n_told_holds(self):
        self.assertEqual(asked(fail(1, 5), fail(1, 1), begin(), begin()), [[0], [0], [0, 1], [1, 3]])
        self.assertEqual(asked(fail(1, 5), fail(1, 0), begin()), [[0], [0], [1, 3]])

    def test_may_be_told_while_the_node_runs(self):
        self.assertEqual(asked(begin(), fail(2, 1), die(2)), [[1, 3], [0], [3, 1]])


class Begin(unittest.TestCase):
    def test_the_root_runs(self):
        self.assertEqual(asked(begin(), begin()), [[1, 3], [-8]])

    def test_may_come_again_when_the_root_is_down(self):
        self.assertEqual(asked(begin(), die(2), die(2), die(2), begin()), [[1, 3], [2, 1], [2, 1], [3, 0], [1, 3]])
        self.assertEqual(asked(fail(3, 1), begin(), begin()), [[0], [0, 5], [1, 3]])


class Die(unittest.TestCase):
    def test_no_such_node(self):
        self.assertEqual(asked(begin(), die(0), die(4), die(MOST)), [[1, 3]] + [[-1]] * 3)

    def test_not_a_worker(self):
        self.assertEqual(asked(tree(keeper(0), keeper(1)), begin(), die(1), die(2)), [[2], [1, 2], [-1], [-1]])

    def test_how_above_1(self):
        self.assertEqual(asked(begin(), die(2, 2), die(3, MOST)), [[1, 3], [-1], [-1]])

    def test_it_does_not_run(self):
        self.assertEqual(asked(die(2), die(3, 0)), [[-8], [-8]])

    def test_it_is_gone_or_ended_or_was_stopped(self):
        rows = [keeper(0, often=0), worker(1, kind=1), worker(1, kind=2), worker(1)]
        self.assertEqual(asked(tree(*rows), begin(), die(2, 0), die(2), die(3), die(3), die(4), die(4)),
                         [[4], [1, 4], [1, 1], [-8], [1, 1], [-8], [2, 0], [-8]])

    def test_of_two_reasons_the_one_told_first(self):
        rows = [keeper(0), keeper(1), worker(2)]
        self.assertEqual(asked(tree(*rows), die(3), die(3, 2), die(1), die(2, 0), die(0), die(4), die(1, 2)),
                         [[3], [-8], [-1], [-1], [-1], [-1], [-1], [-1]])


class Time(unittest.TestCase):
    def test_answers_the_time(self):
        self.assertEqual(asked(time(0), time(1), time(1), time(999)), [[0], [1], [1], [999]])

    def test_less_than_it_is(self):
        self.assertEqual(asked(time(5), time(4), time(0), time(5)), [[5], [-1], [-1], [5]])

    def test_last_time(self):
        self.assertEqual(asked(time(1000000), time(1000000), time(999999)), [[1000000], [1000000], [-1]])
        self.assertEqual(asked(time(1000001), time(MOST), time(0)), [[-1], [-1], [0]])


class AllIsAsItWas(unittest.TestCase):
    def test_behind_each_refusal(self):
        rows = [keeper(0, often=5), worker(1), keeper(1, way=1), worker(3, kind=1), worker(3, kind=2)]
        before = [tree(*rows), time(9), begin(), die(4, 0), die(2), fail(4, 3)]
        stand = after(*before)
        kept = state(stand)
        refused = [(fail(0, 1), -1), (fail(6, 1), -1), (fail(2, 21), -1), (begin(), -8), (die(0), -1), (die(6), -1),
                   (die(3), -1), (die(5, 2), -1), (die(4), -8), (time(8), -1), (time(1000001), -1), (node(0), -1),
                   (node(6), -1), (node(MOST), -1), (tree(), -1)]
        for call, refusal in refused:
            self.assertEqual(do(stand, call), [refusal], call)
            self.assertEqual(state(stand), kept, call)

    def test_behind_a_death_of_what_does_not_run(self):
        stand = after(fail(2, 2))
        kept = state(stand)
        self.assertEqual(do(stand, die(2)), [-8])
        self.assertEqual(state(stand), kept)

    def test_asked_with_log_node_and_up(self):
        rows = tree(keeper(0, often=1), worker(1), keeper(1, kind=2), worker(3, kind=2), worker(1, kind=1))
        runs = [time(4), rows, fail(5, 1), begin(), begin(), time(9), die(4), die(5, 0), die(2), fail(3, 2)]
        down = {"ahead of begin": [fail(2, 3)], "behind stop": runs + [stop()],
                "behind a begin that failed": [rows, fail(5, 2), begin()],
                "behind the root gave up": runs + [die(2)]}
        never = [(node(0), -1), (node(6), -1), (node(MOST), -1), (fail(6, 1), -1), (fail(1, 21), -1), (die(0), -1),
                 (die(1, 0), -1), (die(2, 2), -1), (time(1000001), -1), (tree(worker(0)), -1), (tree(), -1)]
        for when, before in down.items():
            self.as_it_was(when, before, never + [(stop(), -8), (die(2), -8)])
        self.as_it_was("while it runs", runs, never + [(begin(), -8), (die(4), -8), (die(5), -8), (time(8), -1)])

    def as_it_was(self, when, before, refused):
        told = asked(*before, *looks(5))[len(before):]
        behind = asked(*before, begin(), stop(), *looks(5))[len(before):]
        for call, refusal in refused:
            answered = asked(*before, call, *looks(5))[len(before):]
            self.assertEqual(answered, [[refusal]] + told, (when, call))
            answered = asked(*before, call, begin(), stop(), *looks(5))[len(before):]
            self.assertEqual(answered, [[refusal]] + behind, (when, call))

    def test_the_line_goes_on_as_without_them(self):
        calls = [time(3), begin(), die(2), up(), fail(3, 1), node(1), die(3, 0), log(2)]
        answered = asked(*calls)
        refused = line(time(2), fail(1, 21), die(1), die(2, 2), node(9))
        mixed = asked(*[line(call, refused) for call in calls])
        self.assertEqual(mixed[::6], answered)
        self.assertEqual([part for place, part in enumerate(mixed) if place % 6], [[-1]] * 5 * len(calls))


if __name__ == "__main__":
    unittest.main()
