"""stop: the root is stopped, each behind its children, the last one first."""

import unittest

from tests.helper import asked, begin, die, fail, happened_by, keeper, log, node, stop, things, time, tree, up, worker

# 1 looks after 2, 3, 6 and 10; 3 looks after 4 and 5; 6 looks after 7; 7 looks after 8 and 9.
LEVELS = tree(keeper(0, often=5), worker(1), keeper(1), worker(3, kind=1), worker(3), keeper(1, kind=2, often=0),
              keeper(6, often=0), worker(7, kind=2), worker(7), worker(1))


class Stopped(unittest.TestCase):
    def test_all_the_other_way_round(self):
        self.assertEqual(happened_by(stop(), LEVELS, begin()), [(1, i, i) for i in (10, 9, 8, 7, 6, 5, 4, 3, 2, 1)])
        self.assertEqual(asked(LEVELS, begin(), stop(), up()), [[10], [1, 10], [10], [0]])

    def test_without_those_that_do_not_run(self):
        before = [LEVELS, begin(), die(4, 0), die(8), die(5)]
        self.assertEqual(happened_by(stop(), *before),
                         [(1, 10, 10), (1, 9, 9), (1, 7, 7), (1, 6, 6), (1, 5, 11), (1, 3, 3), (1, 2, 2), (1, 1, 1)])
        self.assertEqual(asked(*before, stop(), up())[5:], [[8], [0]])

    def test_without_a_keeper_that_is_gone(self):
        before = [LEVELS, begin(), die(9)]
        self.assertEqual(asked(*before, node(6))[2:], [[4, 1], [0, 1, 0, 0]])
        self.assertEqual(happened_by(stop(), *before),
                         [(1, 10, 10), (1, 5, 5), (1, 4, 4), (1, 3, 3), (1, 2, 2), (1, 1, 1)])
        self.assertEqual(asked(*before, stop(), up())[3:], [[6], [0]])

    def test_by_the_order_of_children_not_of_numbers(self):
        rows = tree(keeper(0), keeper(1), worker(1), worker(2), keeper(1), worker(2), worker(5))
        self.assertEqual(happened_by(stop(), rows, begin()),
                         [(1, 7, 7), (1, 5, 6), (1, 3, 5), (1, 6, 4), (1, 4, 3), (1, 2, 2), (1, 1, 1)])

    def test_root_alone(self):
        self.assertEqual(asked(tree(keeper(0)), begin(), stop(), log(1)), [[1], [1, 1], [1], [1, 1, 1, 1]])

    def test_root_whose_children_do_not_run(self):
        rows = tree(keeper(0), worker(1, kind=2), worker(1, kind=1))
        self.assertEqual(happened_by(stop(), rows, begin(), die(2), die(3, 0)), [(1, 1, 1)])

    def test_fourteen_one_below_the_other(self):
        rows = tree(keeper(0), *[keeper(parent) for parent in range(1, 13)], worker(13))
        self.assertEqual(happened_by(stop(), rows, begin()), [(1, i, i) for i in range(14, 0, -1)])

    def test_starts_that_are_to_fail_stay(self):
        self.assertEqual(asked(begin(), fail(2, 3), stop(), node(2), begin()),
                         [[1, 3], [0], [3], [0, 0, 0, 3], [0, 3]])

    def test_the_time_stays(self):
        self.assertEqual(asked(time(7), begin(), stop(), time(6), time(7))[2:], [[3], [-1], [7]])

    def test_nobody_is_gone_or_begun_again_by_it(self):
        rows = tree(keeper(0, kind=2), worker(1, kind=2), worker(1))
        self.assertEqual(asked(rows, begin(), stop(), node(1), node(2), node(3))[3:], [[0, 0, 0, 0]] * 3)


class BegunBehindIt(unittest.TestCase):
    def test_runs_go_on(self):
        calls = [begin(), stop(), begin(), stop()]
        self.assertEqual(asked(*calls), [[1, 3], [3], [1, 3], [3]])
        self.assertEqual(things(asked(*calls, log())[-1]),
                         [(0, 1, 1), (0, 2, 2), (0, 3, 3), (1, 3, 3), (1, 2, 2), (1, 1, 1),
                          (0, 1, 4), (0, 2, 5), (0, 3, 6), (1, 3, 6), (1, 2, 5), (1, 1, 4)])

    def test_what_ended_or_was_gone_runs_again(self):
        rows = tree(keeper(0), worker(1, kind=2), worker(1, kind=1))
        self.assertEqual(asked(rows, begin(), die(2), die(3, 0), stop(), begin(), up())[4:],
                         [[1], [1, 3], [3, 1, 2, 3]])

    def test_giving_up_is_counted_anew(self):
        self.assertEqual(asked(begin(), die(2), die(2), stop(), begin(), die(2), die(2), die(2), stop())[3:],
                         [[3], [1, 3], [2, 1], [2, 1], [3, 0], [-8]])

    def test_thirty_times(self):
        self.assertEqual(asked(*[begin(), stop()] * 30), [[1, 3], [3]] * 30)


class Refused(unittest.TestCase):
    def test_ahead_of_begin(self):
        self.assertEqual(asked(stop(), log(), up()), [[-8], [0], [0]])

    def test_behind_stop(self):
        self.assertEqual(asked(begin(), stop(), stop(), stop(), log(6)), [[1, 3], [3], [-8], [-8], [0]])

    def test_behind_a_begin_that_failed(self):
        self.assertEqual(asked(fail(1, 1), begin(), stop(), log(1)), [[0], [0, 1], [-8], [0]])
        self.assertEqual(asked(fail(3, 1), begin(), stop(), log(5)), [[0], [0, 5], [-8], [0]])

    def test_behind_the_root_gave_up(self):
        self.assertEqual(asked(tree(keeper(0, often=0), worker(1)), begin(), die(2), stop(), log(4)),
                         [[2], [1, 2], [2, 0], [-8], [0]])

    def test_behind_a_new_tree(self):
        self.assertEqual(asked(begin(), tree(keeper(0)), stop()), [[1, 3], [1], [-8]])

    def test_not_while_the_root_alone_is_left(self):
        self.assertEqual(asked(tree(keeper(0), worker(1, kind=2)), begin(), die(2), stop()), [[2], [1, 2], [1, 1], [1]])


if __name__ == "__main__":
    unittest.main()
