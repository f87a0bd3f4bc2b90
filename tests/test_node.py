"""node and up: runs, who is gone, counted times, starts that are to fail; and who runs."""

import unittest

from tests.helper import MOST, asked, begin, die, fail, keeper, node, stop, time, tree, up, worker


class Run(unittest.TestCase):
    def test_nothing_runs_at_first(self):
        self.assertEqual(asked(node(1), node(2), node(3)), [[0, 0, 0, 0]] * 3)

    def test_by_the_order_of_starts(self):
        rows = tree(keeper(0), keeper(1), worker(1), worker(2))
        self.assertEqual(asked(rows, begin(), *[node(i) for i in (1, 2, 3, 4)])[2:],
                         [[1, 0, 0, 0], [2, 0, 0, 0], [4, 0, 0, 0], [3, 0, 0, 0]])

    def test_a_new_one_each_time_it_is_started(self):
        self.assertEqual(asked(begin(), die(2), node(2), die(2), node(2), node(3))[2::2], [[4, 0, 0, 0], [5, 0, 0, 0]])

    def test_goes_on_over_stop_and_begin_and_from_1_behind_tree(self):
        rows = tree(keeper(0), worker(1))
        calls = [begin(), stop(), node(2), begin(), node(2), stop(), begin(), node(3), rows, node(2), begin(), node(2)]
        self.assertEqual([answer[0] for call, answer in zip(calls, asked(*calls)) if len(answer) == 4],
                         [0, 5, 9, 0, 2])

    def test_refused_tree_lets_runs_go_on(self):
        self.assertEqual(asked(begin(), tree(worker(0)), stop(), begin(), node(1))[1:], [[-1], [3], [1, 3], [4, 0, 0, 0]])


class Gone(unittest.TestCase):
    ROWS = tree(keeper(0, often=1), worker(1), worker(1, kind=2))

    def test_what_runs_once_and_died(self):
        for how in (0, 1):
            self.assertEqual(asked(self.ROWS, begin(), node(3), die(3, how), node(3), node(2))[2:],
                             [[3, 0, 0, 0], [1, 1], [0, 1, 0, 0], [2, 0, 0, 0]])

    def test_not_what_ended_as_it_should(self):
        rows = tree(keeper(0), worker(1, kind=1))
        self.assertEqual(asked(rows, begin(), die(2, 0), node(2))[3], [0, 0, 0, 0])

    def test_behind_stop_and_the_next_begin(self):
        self.assertEqual(asked(self.ROWS, begin(), die(3), stop(), node(3), begin(), node(3))[4:],
                         [[0, 1, 0, 0], [1, 3], [6, 0, 0, 0]])

    def test_behind_the_root_gave_up_and_the_next_begin(self):
        self.assertEqual(asked(self.ROWS, begin(), die(3), die(2), die(2), node(3), begin(), node(3))[4:],
                         [[2, 0], [0, 1, 0, 0], [1, 3], [7, 0, 0, 0]])

    def test_behind_a_begin_that_failed(self):
        before = [self.ROWS, begin(), die(3), stop()]
        # A root that wasn't started leaves all as it was; one that was, and is stopped, has no child that's gone.
        self.assertEqual(asked(*before, fail(1, 1), begin(), node(3))[-2:], [[0, 1], [0, 1, 0, 0]])
        self.assertEqual(asked(*before, fail(2, 1), begin(), node(3))[-2:], [[0, 3], [0, 0, 0, 0]])

    def test_keeper_that_is_gone_and_those_below(self):
        rows = tree(keeper(0), keeper(1, kind=2, often=0), worker(2, kind=2), worker(2))
        calls = [rows, begin(), die(3), die(4)]
        nodes = [node(1), node(2), node(3), node(4)]
        self.assertEqual(asked(*calls, *nodes)[4:], [[1, 0, 0, 0], [0, 1, 0, 0], [0, 1, 0, 0], [0, 0, 0, 0]])
        self.assertEqual(asked(*calls, stop(), begin(), *nodes)[6:],
                         [[5, 0, 0, 0], [6, 0, 0, 0], [7, 0, 0, 0], [8, 0, 0, 0]])

    def test_is_started_again_with_its_parent_alone(self):
        # 2 gives up and is begun again, and so its child 4 isn't gone any more; 5, a child of the root, stays gone.
        rows = tree(keeper(0), keeper(1, often=0), worker(2), worker(2, kind=2), worker(1, kind=2))
        self.assertEqual(asked(rows, begin(), die(4), die(5), die(3), node(4), node(5))[4:],
                         [[5, 1], [8, 0, 0, 0], [0, 1, 0, 0]])

    def test_the_root_never_is(self):
        rows = tree(keeper(0, kind=2, often=0), worker(1))
        self.assertEqual(asked(rows, begin(), die(2), node(1))[3], [0, 0, 0, 0])


class Times(unittest.TestCase):
    def counted(self, i, *calls):
        return asked(*calls, node(i))[-1][2]

    def test_as_the_time_goes_on_with_no_death_between(self):
        calls = [tree(keeper(0, often=5, span=10), worker(1)), begin(), die(2), die(2), time(4), die(2), time(10), die(2)]
        self.assertEqual(self.counted(1, *calls), 4)
        for moment, counted in ((10, 4), (11, 2), (14, 2), (15, 1), (20, 1), (21, 0), (1000000, 0)):
            self.assertEqual(self.counted(1, *calls, time(moment)), counted, moment)

    def test_asked_again_and_again(self):
        calls = [begin(), die(2), time(5), die(2), node(1), time(10), node(1), time(11), node(1), time(15), node(1),
                 time(16), node(1)]
        self.assertEqual(asked(*calls)[4::2], [[1, 0, 2, 0], [1, 0, 2, 0], [1, 0, 1, 0], [1, 0, 1, 0], [1, 0, 0, 0]])

    def test_just_as_long_ago_as_the_while_and_longer(self):
        for span in (0, 1, 2, 999, 1000):
            calls = [tree(keeper(0, often=1, span=span), worker(1)), begin(), time(3), die(2)]
            self.assertEqual(self.counted(1, *calls, time(3 + span)), 1, span)
            self.assertEqual(self.counted(1, *calls, time(4 + span)), 0, span)

    def test_for_the_parent_alone(self):
        rows = tree(keeper(0), keeper(1), worker(2), keeper(1), worker(4))
        calls = [rows, begin(), die(3), die(3), die(5)]
        self.assertEqual([self.counted(i, *calls) for i in (1, 2, 3, 4, 5)], [0, 2, 0, 1, 0])

    def test_with_the_while_of_each(self):
        rows = tree(keeper(0, span=3), keeper(1, span=1), worker(2), worker(1))
        calls = [rows, begin(), die(3), die(4)]
        told = {0: (1, 1), 1: (1, 1), 2: (1, 0), 3: (1, 0), 4: (0, 0)}
        for moment, counted in told.items():
            self.assertEqual((self.counted(1, *calls, time(moment)), self.counted(2, *calls, time(moment))), counted)

    def test_starts_that_fail_count_too(self):
        self.assertEqual(self.counted(1, begin(), fail(2, 1), die(2)), 2)

    def test_what_is_not_begun_again_does_not(self):
        rows = tree(keeper(0), worker(1, kind=1), worker(1, kind=2))
        self.assertEqual(self.counted(1, rows, begin(), die(2, 0), die(3)), 0)

    def test_none_behind_giving_up(self):
        self.assertEqual(self.counted(1, begin(), die(2), die(2)), 2)
        self.assertEqual(self.counted(1, begin(), die(2), die(2), die(2)), 0)

    def test_a_keeper_that_gave_up_counts_for_the_one_above(self):
        rows = tree(keeper(0), keeper(1, often=1), worker(2))
        calls = [rows, begin(), die(3)]
        self.assertEqual((self.counted(1, *calls), self.counted(2, *calls)), (0, 1))
        self.assertEqual((self.counted(1, *calls, die(3)), self.counted(2, *calls, die(3))), (1, 0))

    def test_behind_stop_and_the_next_begin(self):
        calls = [begin(), die(2), time(4), die(3), stop()]
        self.assertEqual([self.counted(1, *calls, time(moment)) for moment in (4, 10, 11, 14, 15)], [2, 2, 1, 1, 0])
        self.assertEqual(self.counted(1, *calls, begin()), 0)

    def test_behind_a_begin_that_failed(self):
        calls = [begin(), die(2), stop()]
        # A root that wasn't started keeps what was counted; one that was, and is stopped, has none.
        self.assertEqual(self.counted(1, *calls, fail(1, 1), begin()), 1)
        self.assertEqual(self.counted(1, *calls, fail(2, 1), begin()), 0)

    def test_of_a_keeper_that_is_stopped_with_others(self):
        # 3 is stopped and started as 2 dies: none are counted for it any more. As 1 gives up it's stopped alone.
        for often, counted in ((1, 0), (0, 1)):
            rows = tree(keeper(0, way=1, often=often), worker(1), keeper(1), worker(3))
            self.assertEqual(self.counted(3, rows, begin(), die(4)), 1)
            self.assertEqual(self.counted(3, rows, begin(), die(4), die(2)), counted)


class StartsThatAreToFail(unittest.TestCase):
    def test_as_told(self):
        self.assertEqual(asked(fail(1, 20), fail(2, 1), node(1), node(2), node(3), fail(1, 0), node(1))[2:],
                         [[0, 0, 0, 20], [0, 0, 0, 1], [0, 0, 0, 0], [0], [0, 0, 0, 0]])

    def test_one_fewer_by_each(self):
        calls = [fail(2, 3), node(2)] + [begin(), node(2)] * 4
        self.assertEqual(asked(*calls)[1::2],
                         [[0, 0, 0, 3], [0, 0, 0, 2], [0, 0, 0, 1], [0, 0, 0, 0], [5, 0, 0, 0]])

    def test_while_it_runs_and_is_begun_again(self):
        rows = tree(keeper(0, often=5), worker(1))
        self.assertEqual(asked(rows, begin(), fail(2, 2), node(2), die(2), node(2))[3:],
                         [[2, 0, 0, 2], [4, 1], [3, 0, 0, 0]])
        self.assertEqual(asked(rows, begin(), fail(2, 20), die(2), node(2))[3:], [[7, 0], [0, 0, 0, 15]])

    def test_of_those_that_were_not_tried(self):
        self.assertEqual(asked(fail(2, 1), fail(3, 4), begin(), node(2), node(3), begin(), node(3))[2:],
                         [[0, 3], [0, 0, 0, 0], [0, 0, 0, 4], [0, 5], [0, 0, 0, 3]])

    def test_none_of_a_node_whose_childs_start_failed(self):
        rows = tree(keeper(0), keeper(1), worker(2))
        self.assertEqual(asked(rows, fail(2, 2), fail(3, 1), begin(), begin(), begin(), node(2), node(3), begin())[3:],
                         [[0, 3], [0, 3], [0, 5], [0, 0, 0, 0], [0, 0, 0, 0], [1, 3]])

    def test_behind_a_new_tree(self):
        self.assertEqual(asked(fail(1, 5), tree(keeper(0)), node(1)), [[0], [1], [0, 0, 0, 0]])


class Refused(unittest.TestCase):
    def test_no_such_node(self):
        self.assertEqual(asked(node(0), node(4), node(MOST)), [[-1]] * 3)
        self.assertEqual(asked(begin(), node(0), node(4), node(MOST)), [[1, 3]] + [[-1]] * 3)

    def test_of_as_many_as_the_tree_has(self):
        self.assertEqual(asked(tree(keeper(0)), node(1), node(2), node(3)), [[1], [0, 0, 0, 0], [-1], [-1]])
        rows = tree(keeper(0), *[worker(1)] * 13)
        self.assertEqual(asked(rows, begin(), node(1), node(14), node(15), node(0))[2:],
                         [[1, 0, 0, 0], [14, 0, 0, 0], [-1], [-1]])


class Up(unittest.TestCase):
    def test_no_node(self):
        self.assertEqual(asked(up(), begin(), stop(), up()), [[0], [1, 3], [3], [0]])
        self.assertEqual(asked(fail(3, 1), begin(), up()), [[0], [0, 5], [0]])
        self.assertEqual(asked(begin(), die(2), die(2), die(2), up())[3:], [[3, 0], [0]])
        self.assertEqual(asked(begin(), tree(keeper(0)), up()), [[1, 3], [1], [0]])

    def test_all(self):
        self.assertEqual(asked(begin(), up()), [[1, 3], [3, 1, 2, 3]])
        self.assertEqual(asked(tree(keeper(0)), begin(), up())[2], [1, 1])

    def test_all_fourteen(self):
        rows = tree(keeper(0), *[worker(1)] * 13)
        self.assertEqual(asked(rows, begin(), up())[2], [14] + list(range(1, 15)))
        rows = tree(keeper(0), *[keeper(i) for i in range(1, 14)])
        self.assertEqual(asked(rows, begin(), up())[2], [14] + list(range(1, 15)))

    def test_rising_whatever_the_order_of_starts(self):
        rows = tree(keeper(0), keeper(1), worker(1), worker(2), keeper(1), worker(2), worker(5))
        self.assertEqual(asked(rows, begin(), up(), die(4), up())[2:], [[7, 1, 2, 3, 4, 5, 6, 7], [2, 1],
                                                                       [7, 1, 2, 3, 4, 5, 6, 7]])

    def test_some(self):
        rows = tree(keeper(0), worker(1, kind=1), worker(1, kind=2), keeper(1, kind=2, often=0), worker(4), worker(1))
        calls = [rows, begin(), die(2, 0), up(), die(3), up(), die(5), up(), die(6), up(), stop(), up(), begin(), up()]
        self.assertEqual(asked(*calls)[3::2], [[5, 1, 3, 4, 5, 6], [4, 1, 4, 5, 6], [2, 1, 6], [2, 1, 6], [0],
                                               [6, 1, 2, 3, 4, 5, 6]])


if __name__ == "__main__":
    unittest.main()
