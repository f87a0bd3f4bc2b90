"""To start and to stop a node, starts that fail, and what is told of that."""

import unittest

from tests.helper import after, asked, begin, die, fail, gone, happened_by, keeper, running, tree, worker

# 1 looks after 2, 3 and 6; 3 looks after 4 and 5; 6 looks after 7.
LEVELS = tree(keeper(0), worker(1), keeper(1), worker(3), worker(3), keeper(1), worker(6))


class AllStarts(unittest.TestCase):
    def test_each_ahead_of_its_children_in_order(self):
        self.assertEqual(happened_by(begin(), LEVELS),
                         [(0, 1, 1), (0, 2, 2), (0, 3, 3), (0, 4, 4), (0, 5, 5), (0, 6, 6), (0, 7, 7)])
        self.assertEqual(asked(LEVELS, begin()), [[7], [1, 7]])

    def test_root_alone(self):
        self.assertEqual(happened_by(begin(), tree(keeper(0))), [(0, 1, 1)])

    def test_gone_children_and_counted_times_are_forgotten(self):
        before = [tree(keeper(0, often=1), worker(1, kind=2), worker(1)), begin(), die(2), die(3)]
        self.assertEqual(gone(after(*before)), [2])
        self.assertEqual(after(*before).nodes[0].times, [0])
        stand = after(*before, die(3), begin())
        self.assertEqual((gone(stand), running(stand), stand.nodes[0].times), ([], [1, 2, 3], []))

    def test_times_are_forgotten_by_a_start_not_by_a_stop(self):
        # 2 counts one death, then is stopped as 1 gives up, which leaves its times as they were.
        rows = tree(keeper(0, often=0), keeper(1, often=1), worker(2), worker(1))
        stand = after(rows, begin(), die(3), die(4))
        self.assertEqual((running(stand), stand.nodes[1].times), ([], [0]))
        self.assertEqual(after(rows, begin(), die(3), die(4), begin()).nodes[1].times, [])
        self.assertEqual(asked(rows, begin(), die(3), die(4), begin(), die(3), die(3))[3:],
                         [[4, 0], [1, 4], [2, 1], [4, 0]])


class AStartFails(unittest.TestCase):
    def test_the_root_itself(self):
        self.assertEqual(happened_by(begin(), LEVELS, fail(1, 1)), [(3, 1, 0)])
        self.assertEqual(asked(LEVELS, fail(1, 1), begin(), begin())[2:], [[0, 1], [1, 7]])

    def test_first_child(self):
        self.assertEqual(happened_by(begin(), LEVELS, fail(2, 1)), [(0, 1, 1), (3, 2, 0), (1, 1, 1)])

    def test_middle_child_with_those_before_stopped_the_last_first(self):
        rows = tree(keeper(0), worker(1), worker(1), worker(1), worker(1))
        self.assertEqual(happened_by(begin(), rows, fail(4, 1)),
                         [(0, 1, 1), (0, 2, 2), (0, 3, 3), (3, 4, 0), (1, 3, 3), (1, 2, 2), (1, 1, 1)])

    def test_last_child(self):
        self.assertEqual(happened_by(begin(), fail(3, 1)),
                         [(0, 1, 1), (0, 2, 2), (3, 3, 0), (1, 2, 2), (1, 1, 1)])

    def test_node_whose_childs_start_failed_is_stopped_not_told_as_failed(self):
        self.assertEqual(happened_by(begin(), LEVELS, fail(5, 1)),
                         [(0, 1, 1), (0, 2, 2), (0, 3, 3), (0, 4, 4), (3, 5, 0), (1, 4, 4), (1, 3, 3), (1, 2, 2),
                          (1, 1, 1)])
        self.assertEqual(asked(LEVELS, fail(5, 1), begin()), [[7], [0], [0, 9]])

    def test_whole_nodes_are_stopped_the_other_way_round(self):
        self.assertEqual(happened_by(begin(), LEVELS, fail(7, 1)),
                         [(0, 1, 1), (0, 2, 2), (0, 3, 3), (0, 4, 4), (0, 5, 5), (0, 6, 6), (3, 7, 0), (1, 6, 6),
                          (1, 5, 5), (1, 4, 4), (1, 3, 3), (1, 2, 2), (1, 1, 1)])

    def test_several_in_a_row_and_runs_go_on(self):
        stand = after(fail(2, 2), begin(), begin(), begin())
        self.assertEqual(stand.happened, [(0, 1, 1), (3, 2, 0), (1, 1, 1), (0, 1, 2), (3, 2, 0), (1, 1, 2),
                                          (0, 1, 3), (0, 2, 4), (0, 3, 5)])
        self.assertEqual(asked(fail(2, 2), begin(), begin(), begin()), [[0], [0, 3], [0, 3], [1, 3]])

    def test_a_start_that_is_not_tried_still_is_to_fail(self):
        self.assertEqual(asked(fail(2, 1), fail(3, 1), begin(), begin(), begin()),
                         [[0], [0], [0, 3], [0, 5], [1, 3]])

    def test_nothing_is_begun_again_while_the_root_is_started(self):
        rows = tree(keeper(0, way=1, often=5, span=1000), keeper(1, often=5), worker(2))
        self.assertEqual(happened_by(begin(), rows, fail(3, 1)), [(0, 1, 1), (0, 2, 2), (3, 3, 0), (1, 2, 2), (1, 1, 1)])
        self.assertEqual([node.times for node in after(rows, fail(3, 1), begin()).nodes], [[], [], []])


if __name__ == "__main__":
    unittest.main()
