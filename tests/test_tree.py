"""Point 1: tree, what it refuses, and what it does away with."""

import unittest

from tests.helper import MOST, after, asked, begin, die, do, fail, keeper, running, state, time, tree, worker

ROOT = keeper(0)


class Taken(unittest.TestCase):
    def test_answers_how_many_nodes(self):
        self.assertEqual(asked(tree(ROOT)), [[1]])
        self.assertEqual(asked(tree(ROOT, worker(1), keeper(1), worker(3))), [[4]])

    def test_fourteen_nodes(self):
        self.assertEqual(asked(tree(ROOT, *[worker(1)] * 13)), [[14]])

    def test_fourteen_nodes_one_below_the_other(self):
        rows = [ROOT] + [keeper(parent) for parent in range(1, 13)] + [worker(13)]
        self.assertEqual(asked(tree(*rows), begin()), [[14], [1, 14]])

    def test_greatest_and_least_numbers(self):
        self.assertEqual(asked(tree([0, 1, 2, 2, 5, 1000], [1, 0, 2, 2, 5, 1000])), [[2]])
        self.assertEqual(asked(tree([0, 1, 0, 0, 0, 0], [1, 0, 0, 0, 0, 0])), [[2]])

    def test_children_are_in_order_also_with_others_between(self):
        rows = [ROOT, keeper(1), worker(1), worker(2), keeper(1), worker(2)]
        stand = after(tree(*rows), begin())
        self.assertEqual([who for what, who, run in stand.happened], [1, 2, 4, 6, 3, 5])


class Refused(unittest.TestCase):
    def refused(self, numbers):
        self.assertEqual(asked([0, len(numbers)] + numbers), [[-1]], numbers)

    def test_not_one_to_fourteen_nodes(self):
        self.refused([])
        self.refused(ROOT + worker(1) * 14)
        self.refused(ROOT + worker(1) * 15)

    def test_not_six_numbers_each(self):
        whole = ROOT + worker(1) * 13
        for size in range(1, len(whole)):
            if size % 6 != 0:
                self.refused(whole[:size])
        self.refused(whole + [1])

    def test_first_is_no_keeper_with_parent_0(self):
        self.refused(worker(0))
        self.refused(keeper(1))
        self.refused(keeper(2) + keeper(0))
        self.refused(keeper(MOST))
        self.refused([0, 2, 0, 0, 0, 0])

    def test_parent_is_no_keeper_with_a_lesser_number(self):
        for parent in (0, 2, 4, 5, 6, 7, 15, MOST):
            self.refused(ROOT + worker(1) + keeper(1) + worker(parent) + keeper(1) + worker(1))
        self.refused(ROOT + keeper(0))
        self.refused(ROOT + keeper(2))

    def test_number_above_its_most(self):
        for place, most in ((1, 1), (2, 2), (3, 2), (4, 5), (5, 1000)):
            for number in (most + 1, MOST):
                for node in range(4):
                    numbers = ROOT + worker(1) + keeper(1) + worker(3)
                    numbers[node * 6 + place] = number
                    self.refused(numbers)

    def test_several_reasons_at_once(self):
        self.refused([MOST] * 6)
        self.refused([MOST] * 96)
        self.refused([MOST] * 95)

    def test_all_is_as_it_was(self):
        stand = after(tree(ROOT, worker(1), worker(1)), time(7), begin(), die(2), fail(3, 4))
        before = state(stand)
        for numbers in ([], ROOT[:5], worker(0), ROOT + worker(2), ROOT + [1, 0, 3, 0, 0, 0], ROOT * 15):
            self.assertEqual(do(stand, [0, len(numbers)] + numbers), [-1])
            self.assertEqual(state(stand), before)

    def test_the_line_goes_on_as_without_it(self):
        refused = tree(ROOT, worker(2))
        self.assertEqual(asked(begin(), refused, die(3), refused, die(3), die(3)),
                         [[1, 3], [-1], [2, 1], [-1], [2, 1], [3, 0]])


class Anew(unittest.TestCase):
    def test_all_is_as_new_behind_a_tree(self):
        rows = [keeper(0, often=1), worker(1, kind=2), worker(1)]
        used = after(tree(*rows), fail(2, 1), begin(), fail(2, 3), fail(1, 2), begin(), begin(), fail(2, 0),
                     time(30), begin(), die(2), die(3), fail(3, 7), tree(*rows))
        self.assertEqual(state(used), state(after(tree(*rows))))
        self.assertEqual(state(used)[1:], (0, 0, []))
        self.assertEqual(running(used), [])

    def test_no_start_is_to_fail(self):
        self.assertEqual(asked(fail(1, 1), fail(2, 1), tree(ROOT, worker(1)), begin()), [[0], [0], [2], [1, 2]])

    def test_nothing_runs(self):
        self.assertEqual(asked(begin(), tree(ROOT, worker(1)), die(2), begin()), [[1, 3], [2], [-8], [1, 2]])

    def test_the_time_is_0(self):
        self.assertEqual(asked(time(50), tree(ROOT), time(3), time(2)), [[50], [1], [3], [-1]])

    def test_runs_are_numbered_from_1(self):
        self.assertEqual(after(begin(), tree(ROOT, worker(1)), begin()).happened, [(0, 1, 1), (0, 2, 2)])

    def test_the_tree_is_the_new_one(self):
        self.assertEqual(asked(tree(ROOT), fail(2, 1), die(2)), [[1], [-1], [-1]])
        self.assertEqual(asked(tree(ROOT, *[worker(1)] * 13), fail(14, 1), fail(15, 1)), [[14], [0], [-1]])


if __name__ == "__main__":
    unittest.main()
