"""log: all that happened, number by number, and node and up behind it."""

import unittest

from tests.helper import MOST, asked, begin, die, fail, keeper, log, node, stop, time, tree, up, worker

BEGUN = [0, 1, 1, 0, 2, 2, 0, 3, 3]


class BehindTheFirst(unittest.TestCase):
    def test_nothing_happened(self):
        self.assertEqual(asked(log(0), log(1), log(MOST)), [[0]] * 3)

    def test_from_the_first_on(self):
        self.assertEqual(asked(begin(), log(0)), [[1, 3], [3] + BEGUN])

    def test_some_are_passed_over(self):
        self.assertEqual(asked(begin(), log(1), log(2)), [[1, 3], [2, 0, 2, 2, 0, 3, 3], [1, 0, 3, 3]])

    def test_as_many_as_happened_and_more(self):
        self.assertEqual(asked(begin(), log(3), log(4), log(5), log(MOST - 1), log(MOST)), [[1, 3]] + [[0]] * 5)

    def test_each_n(self):
        calls = [begin(), die(2), stop()]
        whole = asked(*calls, log())[-1][1:]
        self.assertEqual(len(whole), 3 * 8)
        for n in range(12):
            behind = whole[3 * n:]
            self.assertEqual(asked(*calls, log(n))[-1], [len(behind) // 3] + behind)

    def test_what_is_new_since(self):
        self.assertEqual(asked(log(0), begin(), log(0), die(2), log(3), log(5), stop(), log(5)),
                         [[0], [1, 3], [3] + BEGUN, [2, 1], [2, 2, 2, 2, 0, 2, 4], [0], [3],
                          [3, 1, 3, 3, 1, 2, 4, 1, 1, 1]])

    def test_asking_changes_nothing(self):
        self.assertEqual(asked(begin(), log(), log(), log(2), log()), [[1, 3], [3] + BEGUN, [3] + BEGUN, [1, 0, 3, 3],
                                                                       [3] + BEGUN])

    def test_asking_and_refusals_are_not_told(self):
        calls = [begin(), begin(), node(1), node(9), up(), time(3), time(2), fail(2, 1), fail(9, 1), die(1), tree(), log()]
        self.assertEqual(asked(*calls)[-1], [3] + BEGUN)

    def test_nothing_is_left_behind_a_new_tree(self):
        self.assertEqual(asked(begin(), die(2), tree(keeper(0), worker(1)), log(), begin(), log())[2:],
                         [[2], [0], [1, 2], [2, 0, 1, 1, 0, 2, 2]])


class Whole(unittest.TestCase):
    """Each thing as (what, who, run); then who runs, and what node answers of each."""

    def told(self, calls, happened, running, nodes):
        numbers = [number for thing in happened for number in thing]
        answered = asked(*calls, log(), up(), *[node(i + 1) for i in range(len(nodes))])[len(calls):]
        self.assertEqual(answered[0], [len(happened)] + numbers)
        self.assertEqual(answered[1], [len(running)] + running)
        self.assertEqual(answered[2:], nodes)

    def test_each_kind(self):
        calls = [tree(keeper(0, often=5), worker(1), worker(1, kind=1), worker(1, kind=2)), begin(),
                 die(2, 0), die(3), die(3, 0), die(4)]
        happened = [(0, 1, 1), (0, 2, 2), (0, 3, 3), (0, 4, 4), (2, 2, 2), (0, 2, 5), (2, 3, 3), (0, 3, 6), (2, 3, 6),
                    (2, 4, 4)]
        self.told(calls, happened, [1, 2], [[1, 0, 2, 0], [5, 0, 0, 0], [0, 0, 0, 0], [0, 1, 0, 0]])
        self.told(calls + [stop()], happened + [(1, 2, 5), (1, 1, 1)], [],
                  [[0, 0, 2, 0], [0, 0, 0, 0], [0, 0, 0, 0], [0, 1, 0, 0]])
        self.told(calls + [stop(), begin()],
                  happened + [(1, 2, 5), (1, 1, 1), (0, 1, 7), (0, 2, 8), (0, 3, 9), (0, 4, 10)], [1, 2, 3, 4],
                  [[7, 0, 0, 0], [8, 0, 0, 0], [9, 0, 0, 0], [10, 0, 0, 0]])

    def way(self, way, *kinds):
        return [tree(keeper(0, way=way, often=5), *[worker(1, kind=kind) for kind in kinds]), begin()]

    def test_one_alone(self):
        calls = self.way(0, 0, 0, 0) + [die(3)]
        happened = [(0, 1, 1), (0, 2, 2), (0, 3, 3), (0, 4, 4), (2, 3, 3), (0, 3, 5)]
        self.told(calls, happened, [1, 2, 3, 4], [[1, 0, 1, 0], [2, 0, 0, 0], [5, 0, 0, 0], [4, 0, 0, 0]])
        self.told(calls + [stop()], happened + [(1, 4, 4), (1, 3, 5), (1, 2, 2), (1, 1, 1)], [],
                  [[0, 0, 1, 0]] + [[0, 0, 0, 0]] * 3)

    def test_all(self):
        calls = self.way(1, 0, 0, 2) + [die(3)]
        happened = [(0, 1, 1), (0, 2, 2), (0, 3, 3), (0, 4, 4), (2, 3, 3), (1, 4, 4), (1, 2, 2), (0, 2, 5), (0, 3, 6)]
        self.told(calls, happened, [1, 2, 3], [[1, 0, 1, 0], [5, 0, 0, 0], [6, 0, 0, 0], [0, 1, 0, 0]])
        self.told(calls + [stop()], happened + [(1, 3, 6), (1, 2, 5), (1, 1, 1)], [],
                  [[0, 0, 1, 0], [0, 0, 0, 0], [0, 0, 0, 0], [0, 1, 0, 0]])

    def test_the_rest(self):
        calls = self.way(2, 2, 0, 2, 0) + [die(3)]
        happened = [(0, 1, 1), (0, 2, 2), (0, 3, 3), (0, 4, 4), (0, 5, 5), (2, 3, 3), (1, 5, 5), (1, 4, 4), (0, 3, 6),
                    (0, 5, 7)]
        self.told(calls, happened, [1, 2, 3, 5],
                  [[1, 0, 1, 0], [2, 0, 0, 0], [6, 0, 0, 0], [0, 1, 0, 0], [7, 0, 0, 0]])
        self.told(calls + [stop()], happened + [(1, 5, 7), (1, 3, 6), (1, 2, 2), (1, 1, 1)], [],
                  [[0, 0, 1, 0], [0, 0, 0, 0], [0, 0, 0, 0], [0, 1, 0, 0], [0, 0, 0, 0]])

    def test_giving_up_at_one_level(self):
        calls = [begin(), die(2), die(3), die(2)]
        happened = [(0, 1, 1), (0, 2, 2), (0, 3, 3), (2, 2, 2), (0, 2, 4), (2, 3, 3), (0, 3, 5), (2, 2, 4), (1, 3, 5),
                    (4, 1, 1)]
        self.told(calls, happened, [], [[0, 0, 0, 0]] * 3)
        self.told(calls + [begin()], happened + [(0, 1, 6), (0, 2, 7), (0, 3, 8)], [1, 2, 3],
                  [[6, 0, 0, 0], [7, 0, 0, 0], [8, 0, 0, 0]])

    def test_giving_up_at_several_levels(self):
        # 1 looks after 2 and 6; 2 looks after 3 and 5; 3 looks after 4.
        rows = [keeper(0, often=1), keeper(1, often=0), keeper(2, often=0), worker(3), worker(2), worker(1)]
        calls = [tree(*rows), begin(), die(4)]
        happened = [(0, 1, 1), (0, 2, 2), (0, 3, 3), (0, 4, 4), (0, 5, 5), (0, 6, 6),
                    (2, 4, 4), (4, 3, 3), (1, 5, 5), (4, 2, 2), (0, 2, 7), (0, 3, 8), (0, 4, 9), (0, 5, 10)]
        self.told(calls, happened, [1, 2, 3, 4, 5, 6],
                  [[1, 0, 1, 0], [7, 0, 0, 0], [8, 0, 0, 0], [9, 0, 0, 0], [10, 0, 0, 0], [6, 0, 0, 0]])
        self.told(calls + [die(5)],
                  happened + [(2, 5, 10), (1, 4, 9), (1, 3, 8), (4, 2, 7), (1, 6, 6), (4, 1, 1)], [],
                  [[0, 0, 0, 0]] * 6)

    def test_giving_up_of_what_runs_once(self):
        rows = [keeper(0), keeper(1, kind=2, often=0), worker(2), worker(2, kind=2), worker(1)]
        calls = [tree(*rows), begin(), die(4), die(3)]
        happened = [(0, 1, 1), (0, 2, 2), (0, 3, 3), (0, 4, 4), (0, 5, 5), (2, 4, 4), (2, 3, 3), (4, 2, 2)]
        self.told(calls, happened, [1, 5], [[1, 0, 0, 0], [0, 1, 0, 0], [0, 0, 0, 0], [0, 1, 0, 0], [5, 0, 0, 0]])

    def test_starts_that_fail_at_begin(self):
        calls = [tree(keeper(0), worker(1), worker(1), worker(1)), fail(2, 1), begin(), fail(3, 1), begin(),
                 fail(4, 1), begin(), fail(1, 1), begin()]
        happened = [(0, 1, 1), (3, 2, 0), (1, 1, 1),
                    (0, 1, 2), (0, 2, 3), (3, 3, 0), (1, 2, 3), (1, 1, 2),
                    (0, 1, 4), (0, 2, 5), (0, 3, 6), (3, 4, 0), (1, 3, 6), (1, 2, 5), (1, 1, 4),
                    (3, 1, 0)]
        self.told(calls, happened, [], [[0, 0, 0, 0]] * 4)
        self.told(calls + [begin()], happened + [(0, 1, 7), (0, 2, 8), (0, 3, 9), (0, 4, 10)], [1, 2, 3, 4],
                  [[7, 0, 0, 0], [8, 0, 0, 0], [9, 0, 0, 0], [10, 0, 0, 0]])

    def test_starts_that_fail_one_alone(self):
        calls = self.way(0, 0, 0) + [fail(2, 2), die(2)]
        happened = [(0, 1, 1), (0, 2, 2), (0, 3, 3), (2, 2, 2), (3, 2, 0), (3, 2, 0), (0, 2, 4)]
        self.told(calls, happened, [1, 2, 3], [[1, 0, 3, 0], [4, 0, 0, 0], [3, 0, 0, 0]])
        self.told(calls + [fail(2, 5), die(2)],
                  happened + [(2, 2, 4), (3, 2, 0), (3, 2, 0), (1, 3, 3), (4, 1, 1)], [],
                  [[0, 0, 0, 0], [0, 0, 0, 3], [0, 0, 0, 0]])

    def test_starts_that_fail_among_all(self):
        calls = self.way(1, 0, 0, 0)
        happened = [(0, 1, 1), (0, 2, 2), (0, 3, 3), (0, 4, 4)]
        calls += [fail(2, 1), die(3)]
        happened += [(2, 3, 3), (1, 4, 4), (1, 2, 2), (3, 2, 0), (0, 2, 5), (0, 3, 6), (0, 4, 7)]
        self.told(calls, happened, [1, 2, 3, 4], [[1, 0, 2, 0], [5, 0, 0, 0], [6, 0, 0, 0], [7, 0, 0, 0]])
        calls += [fail(3, 1), die(3)]
        happened += [(2, 3, 6), (1, 4, 7), (1, 2, 5), (0, 2, 8), (3, 3, 0), (1, 2, 8), (0, 2, 9), (0, 3, 10), (0, 4, 11)]
        self.told(calls, happened, [1, 2, 3, 4], [[1, 0, 4, 0], [9, 0, 0, 0], [10, 0, 0, 0], [11, 0, 0, 0]])
        calls += [time(11), fail(4, 1), die(3)]
        happened += [(2, 3, 10), (1, 4, 11), (1, 2, 9), (0, 2, 12), (0, 3, 13), (3, 4, 0), (1, 3, 13), (1, 2, 12),
                     (0, 2, 14), (0, 3, 15), (0, 4, 16)]
        self.told(calls, happened, [1, 2, 3, 4], [[1, 0, 2, 0], [14, 0, 0, 0], [15, 0, 0, 0], [16, 0, 0, 0]])

    def test_starts_that_fail_among_the_rest(self):
        calls = self.way(2, 0, 0, 0)
        happened = [(0, 1, 1), (0, 2, 2), (0, 3, 3), (0, 4, 4)]
        calls += [fail(2, 1), die(2)]
        happened += [(2, 2, 2), (1, 4, 4), (1, 3, 3), (3, 2, 0), (0, 2, 5), (0, 3, 6), (0, 4, 7)]
        self.told(calls, happened, [1, 2, 3, 4], [[1, 0, 2, 0], [5, 0, 0, 0], [6, 0, 0, 0], [7, 0, 0, 0]])
        calls += [fail(3, 1), die(2)]
        happened += [(2, 2, 5), (1, 4, 7), (1, 3, 6), (0, 2, 8), (3, 3, 0), (0, 3, 9), (0, 4, 10)]
        self.told(calls, happened, [1, 2, 3, 4], [[1, 0, 4, 0], [8, 0, 0, 0], [9, 0, 0, 0], [10, 0, 0, 0]])
        calls += [time(11), fail(4, 1), die(2)]
        happened += [(2, 2, 8), (1, 4, 10), (1, 3, 9), (0, 2, 11), (0, 3, 12), (3, 4, 0), (0, 4, 13)]
        self.told(calls, happened, [1, 2, 3, 4], [[1, 0, 2, 0], [11, 0, 0, 0], [12, 0, 0, 0], [13, 0, 0, 0]])

    def test_starts_that_fail_in_nodes_below(self):
        # 1 looks after 2 and 3; 3 looks after 4 and 5.
        calls = [tree(keeper(0), worker(1), keeper(1, often=0), worker(3), worker(3)), fail(5, 1), begin()]
        happened = [(0, 1, 1), (0, 2, 2), (0, 3, 3), (0, 4, 4), (3, 5, 0), (1, 4, 4), (1, 3, 3), (1, 2, 2), (1, 1, 1)]
        self.told(calls, happened, [], [[0, 0, 0, 0]] * 5)
        calls += [begin(), fail(4, 1), die(5)]
        happened += [(0, 1, 5), (0, 2, 6), (0, 3, 7), (0, 4, 8), (0, 5, 9),
                     (2, 5, 9), (1, 4, 8), (4, 3, 7), (0, 3, 10), (3, 4, 0), (1, 3, 10),
                     (0, 3, 11), (0, 4, 12), (0, 5, 13)]
        self.told(calls, happened, [1, 2, 3, 4, 5],
                  [[5, 0, 2, 0], [6, 0, 0, 0], [11, 0, 0, 0], [12, 0, 0, 0], [13, 0, 0, 0]])
        calls += [fail(3, 4), time(10), die(5)]
        happened += [(2, 5, 13), (1, 4, 12), (4, 3, 11), (1, 2, 6), (4, 1, 5)]
        self.told(calls, happened, [], [[0, 0, 0, 0], [0, 0, 0, 0], [0, 0, 0, 4], [0, 0, 0, 0], [0, 0, 0, 0]])


if __name__ == "__main__":
    unittest.main()
