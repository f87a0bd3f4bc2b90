"""A worker dies: kinds, ways, how often in which while, giving up, and starts that fail meanwhile."""

import unittest

from tests.helper import after, asked, begin, die, fail, gone, happened_by, keeper, running, time, tree, worker


class Kinds(unittest.TestCase):
    ROWS = tree(keeper(0, often=5), worker(1, kind=0), worker(1, kind=1), worker(1, kind=2))

    def test_for_ever_is_begun_again_however_it_ended(self):
        for how in (0, 1):
            self.assertEqual(happened_by(die(2, how), self.ROWS, begin()), [(2, 2, 2), (0, 2, 5)])
        self.assertEqual(after(self.ROWS, begin(), die(2, 0), die(2, 1)).nodes[0].times, [0, 0])

    def test_till_it_ends_as_it_should(self):
        self.assertEqual(happened_by(die(3, 0), self.ROWS, begin()), [(2, 3, 3)])
        self.assertEqual(happened_by(die(3, 1), self.ROWS, begin()), [(2, 3, 3), (0, 3, 5)])
        stand = after(self.ROWS, begin(), die(3, 0))
        self.assertEqual((running(stand), gone(stand), stand.nodes[0].times), ([1, 2, 4], [], []))

    def test_once(self):
        for how in (0, 1):
            self.assertEqual(happened_by(die(4, how), self.ROWS, begin()), [(2, 4, 4)])
            stand = after(self.ROWS, begin(), die(4, how))
            self.assertEqual((running(stand), gone(stand), stand.nodes[0].times), ([1, 2, 3], [4], []))

    def test_answers(self):
        self.assertEqual(asked(self.ROWS, begin(), die(2, 0), die(2), die(3), die(3, 0), die(4)),
                         [[4], [1, 4], [2, 1], [2, 1], [2, 1], [1, 1], [1, 1]])

    def test_what_is_not_begun_again_does_not_count(self):
        rows = tree(keeper(0, often=0), worker(1, kind=1), worker(1, kind=2))
        self.assertEqual(asked(rows, begin(), die(2, 0), die(3)), [[3], [1, 3], [1, 1], [1, 1]])

    def test_keeper_that_gave_up_ended_otherwise(self):
        def line(kind):
            return [tree(keeper(0, often=5), keeper(1, kind=kind, often=0), worker(2)), begin()]
        again = [(2, 3, 3), (4, 2, 2), (0, 2, 4), (0, 3, 5)]
        self.assertEqual(happened_by(die(3, 0), *line(0)), again)
        self.assertEqual(happened_by(die(3, 0), *line(1)), again)
        self.assertEqual(happened_by(die(3, 0), *line(2)), again[:2])
        stand = after(*line(2), die(3, 0))
        self.assertEqual((running(stand), gone(stand), stand.nodes[0].times), ([1], [2], []))


class Ways(unittest.TestCase):
    def line(self, way, middle=0, last=0):
        rows = [keeper(0, way=way, often=5), worker(1), worker(1, kind=middle), worker(1, kind=last), worker(1)]
        return [tree(*rows), begin()]

    def test_one_alone(self):
        self.assertEqual(happened_by(die(3), *self.line(0)), [(2, 3, 3), (0, 3, 6)])

    def test_all(self):
        self.assertEqual(happened_by(die(3), *self.line(1)),
                         [(2, 3, 3), (1, 5, 5), (1, 4, 4), (1, 2, 2), (0, 2, 6), (0, 3, 7), (0, 4, 8), (0, 5, 9)])

    def test_the_rest(self):
        self.assertEqual(happened_by(die(3), *self.line(2)),
                         [(2, 3, 3), (1, 5, 5), (1, 4, 4), (0, 3, 6), (0, 4, 7), (0, 5, 8)])

    def test_the_rest_of_the_first_and_of_the_last(self):
        self.assertEqual(happened_by(die(2), *self.line(2)),
                         [(2, 2, 2), (1, 5, 5), (1, 4, 4), (1, 3, 3), (0, 2, 6), (0, 3, 7), (0, 4, 8), (0, 5, 9)])
        self.assertEqual(happened_by(die(5), *self.line(2)), [(2, 5, 5), (0, 5, 6)])

    def test_one_alone_leaves_what_runs_once(self):
        stand = after(*self.line(0, middle=2), die(2))
        self.assertEqual((running(stand), gone(stand)), ([1, 2, 3, 4, 5], []))

    def test_all_with_those_of_kind_2_gone(self):
        before = self.line(1, middle=2)
        self.assertEqual(happened_by(die(4), *before),
                         [(2, 4, 4), (1, 5, 5), (1, 3, 3), (1, 2, 2), (0, 2, 6), (0, 4, 7), (0, 5, 8)])
        stand = after(*before, die(4))
        self.assertEqual((running(stand), gone(stand)), ([1, 2, 4, 5], [3]))
        self.assertEqual(happened_by(die(5), *before, die(4)),
                         [(2, 5, 8), (1, 4, 7), (1, 2, 6), (0, 2, 9), (0, 4, 10), (0, 5, 11)])

    def test_the_rest_with_those_of_kind_2_behind_gone(self):
        before = self.line(2, middle=2, last=2)
        stand = after(*before, die(5))
        self.assertEqual((running(stand), gone(stand)), ([1, 2, 3, 4, 5], []))
        self.assertEqual(happened_by(die(2), *before),
                         [(2, 2, 2), (1, 5, 5), (1, 4, 4), (1, 3, 3), (0, 2, 6), (0, 5, 7)])
        self.assertEqual(gone(after(*before, die(2))), [3, 4])

    def test_the_rest_leaves_those_before_of_kind_2(self):
        before = self.line(2, middle=2)
        self.assertEqual(happened_by(die(4), *before), [(2, 4, 4), (1, 5, 5), (0, 4, 6), (0, 5, 7)])
        self.assertEqual(gone(after(*before, die(4))), [])

    def test_what_died_once_stays_gone(self):
        self.assertEqual(happened_by(die(5), *self.line(1, middle=2), die(3)),
                         [(2, 5, 5), (1, 4, 4), (1, 2, 2), (0, 2, 6), (0, 4, 7), (0, 5, 8)])

    def test_what_ended_as_it_should_is_started_with_the_others(self):
        self.assertEqual(happened_by(die(2), *self.line(1, middle=1), die(3, 0)),
                         [(2, 2, 2), (1, 5, 5), (1, 4, 4), (0, 2, 6), (0, 3, 7), (0, 4, 8), (0, 5, 9)])
        self.assertEqual(happened_by(die(2), *self.line(2, middle=1), die(3, 0)),
                         [(2, 2, 2), (1, 5, 5), (1, 4, 4), (0, 2, 6), (0, 3, 7), (0, 4, 8), (0, 5, 9)])
        self.assertEqual(happened_by(die(2), *self.line(0, middle=1), die(3, 0)), [(2, 2, 2), (0, 2, 6)])
        self.assertEqual(happened_by(die(4), *self.line(2, middle=1), die(3, 0)),
                         [(2, 4, 4), (1, 5, 5), (0, 4, 6), (0, 5, 7)])

    def test_keepers_are_stopped_and_started_whole(self):
        rows = tree(keeper(0, way=1), worker(1), keeper(1, kind=1), worker(3), worker(3, kind=2))
        self.assertEqual(happened_by(die(2), rows, begin(), die(5)),
                         [(2, 2, 2), (1, 4, 4), (1, 3, 3), (0, 2, 6), (0, 3, 7), (0, 4, 8), (0, 5, 9)])

    def test_the_way_of_the_parent_counts_not_that_of_others(self):
        rows = tree(keeper(0, way=1), keeper(1, way=0), worker(2), worker(2), keeper(1, way=2), worker(5))
        self.assertEqual(happened_by(die(3), rows, begin()), [(2, 3, 3), (0, 3, 7)])


class HowOften(unittest.TestCase):
    def line(self, often, span):
        return [tree(keeper(0, often=often, span=span), worker(1), worker(1)), begin()]

    def test_never(self):
        self.assertEqual(happened_by(die(2, 0), *self.line(0, 1000)), [(2, 2, 2), (1, 3, 3), (4, 1, 1)])

    def test_five_times(self):
        self.assertEqual(asked(*self.line(5, 0), *[die(2)] * 7)[2:], [[2, 1]] * 5 + [[3, 0], [-8]])

    def test_deaths_of_all_children_count_together(self):
        self.assertEqual(asked(begin(), die(2), die(3), die(2)), [[1, 3], [2, 1], [2, 1], [3, 0]])

    def test_just_as_long_ago_as_the_while_counts(self):
        for span in (0, 1, 10, 1000):
            self.assertEqual(asked(*self.line(1, span), time(5), die(2), time(5 + span), die(2))[3:],
                             [[2, 1], [5 + span], [3, 0]])

    def test_longer_ago_than_the_while_does_not(self):
        for span in (0, 1, 10, 1000):
            self.assertEqual(asked(*self.line(1, span), time(5), die(2), time(6 + span), die(2))[3:],
                             [[2, 1], [6 + span], [2, 1]])

    def test_a_while_of_0_counts_the_same_moment(self):
        calls = [*self.line(2, 0), die(2), die(2), time(1), die(2), die(2), die(2)]
        self.assertEqual(asked(*calls)[2:], [[2, 1], [2, 1], [1], [2, 1], [2, 1], [3, 0]])

    def test_the_while_goes_along_with_the_time(self):
        calls = [begin()]
        for moment in (0, 5, 11, 16, 22):
            calls += [time(moment), die(2)]
        self.assertEqual(asked(*calls)[2::2], [[2, 1]] * 5)
        self.assertEqual(asked(*calls, time(26), die(3)), asked(*calls) + [[26], [3, 0]])
        self.assertEqual(asked(*calls, time(27), die(3)), asked(*calls) + [[27], [2, 1]])

    def test_times_that_are_kept(self):
        calls = [begin(), die(2), time(10), die(2)]
        self.assertEqual(after(*calls).nodes[0].times, [0, 10])
        self.assertEqual(after(*calls, time(20), die(3)).nodes[0].times, [10, 20])

    def test_at_the_last_time(self):
        self.assertEqual(asked(begin(), time(999990), die(2), time(1000000), die(2), die(2))[2:],
                         [[2, 1], [1000000], [2, 1], [3, 0]])

    def test_time_alone_does_nothing(self):
        stand = after(begin(), die(2), time(1000))
        self.assertEqual((running(stand), len(stand.happened)), ([1, 2, 3], 5))


class GivingUp(unittest.TestCase):
    def test_the_root_and_then_anew(self):
        calls = [begin(), die(2), die(3), die(2)]
        self.assertEqual(happened_by(calls[3], *calls[:3]), [(2, 2, 4), (1, 3, 5), (4, 1, 1)])
        stand = after(*calls)
        self.assertEqual((running(stand), stand.nodes[0].times), ([], []))
        self.assertEqual(happened_by(begin(), *calls), [(0, 1, 6), (0, 2, 7), (0, 3, 8)])
        self.assertEqual(asked(*calls, begin(), die(2), die(2), die(2))[4:], [[1, 3], [2, 1], [2, 1], [3, 0]])

    def test_root_of_kind_2_is_not_gone(self):
        self.assertEqual(gone(after(tree(keeper(0, kind=2, often=0), worker(1)), begin(), die(2))), [])

    def test_those_below_are_stopped_the_last_first_with_theirs(self):
        rows = tree(keeper(0, often=0), keeper(1), worker(2), worker(2), worker(1), keeper(1), worker(6))
        self.assertEqual(happened_by(die(5), rows, begin()),
                         [(2, 5, 5), (1, 7, 7), (1, 6, 6), (1, 4, 4), (1, 3, 3), (1, 2, 2), (4, 1, 1)])

    def test_keeper_is_begun_again_by_the_one_above(self):
        rows = tree(keeper(0, often=1), worker(1), keeper(1, often=1), worker(3), worker(3))
        calls = [rows, begin(), die(4), die(5)]
        self.assertEqual(happened_by(calls[3], *calls[:3]),
                         [(2, 5, 5), (1, 4, 6), (4, 3, 3), (0, 3, 7), (0, 4, 8), (0, 5, 9)])
        stand = after(*calls)
        self.assertEqual([node.times for node in stand.nodes], [[0], [], [], [], []])
        self.assertEqual(asked(*calls, die(4), die(4)),
                         [[5], [1, 5], [2, 1], [6, 1], [2, 1], [5, 0]])

    def test_up_to_the_root(self):
        rows = tree(keeper(0, often=0), keeper(1, often=0), keeper(2, often=0), worker(3), worker(2), worker(1))
        self.assertEqual(happened_by(die(4), rows, begin()),
                         [(2, 4, 4), (4, 3, 3), (1, 5, 5), (4, 2, 2), (1, 6, 6), (4, 1, 1)])
        self.assertEqual(asked(rows, begin(), die(4), begin()), [[6], [1, 6], [6, 0], [1, 6]])

    def test_halfway_up_others_are_not_touched(self):
        rows = tree(keeper(0), worker(1), keeper(1, often=0), keeper(3, often=0), worker(4), worker(3))
        self.assertEqual(happened_by(die(5), rows, begin()),
                         [(2, 5, 5), (4, 4, 4), (1, 6, 6), (4, 3, 3), (0, 3, 7), (0, 4, 8), (0, 5, 9), (0, 6, 10)])

    def test_with_the_way_of_the_one_above(self):
        def rows(way):
            return tree(keeper(0, way=way), worker(1), keeper(1, often=0), worker(3), worker(1))
        gave_up = [(2, 4, 4), (4, 3, 3)]
        self.assertEqual(happened_by(die(4), rows(0), begin()), gave_up + [(0, 3, 6), (0, 4, 7)])
        self.assertEqual(happened_by(die(4), rows(1), begin()),
                         gave_up + [(1, 5, 5), (1, 2, 2), (0, 2, 6), (0, 3, 7), (0, 4, 8), (0, 5, 9)])
        self.assertEqual(happened_by(die(4), rows(2), begin()),
                         gave_up + [(1, 5, 5), (0, 3, 6), (0, 4, 7), (0, 5, 8)])

    def test_thirteen_keepers_one_below_the_other(self):
        rows = [keeper(parent, often=0) for parent in range(13)] + [worker(13)]
        self.assertEqual(asked(tree(*rows), begin(), die(14), begin()), [[14], [1, 14], [14, 0], [1, 14]])
        rows[0] = keeper(0, often=1)
        self.assertEqual(asked(tree(*rows), begin(), die(14), die(14)), [[14], [1, 14], [26, 1], [14, 0]])


class StartsThatFailMeanwhile(unittest.TestCase):
    def line(self, way, often=5, kinds=(0, 0, 0, 0)):
        return [tree(keeper(0, way=way, often=often), *[worker(1, kind=kind) for kind in kinds]), begin()]

    def test_one_alone_is_begun_again_and_counted_each_time(self):
        before = [*self.line(0), fail(3, 2)]
        self.assertEqual(happened_by(die(3), *before), [(2, 3, 3), (3, 3, 0), (3, 3, 0), (0, 3, 6)])
        self.assertEqual(after(*before, die(3)).nodes[0].times, [0, 0, 0])

    def test_one_alone_till_its_keeper_gives_up(self):
        self.assertEqual(happened_by(die(2), begin(), fail(2, 2)),
                         [(2, 2, 2), (3, 2, 0), (3, 2, 0), (1, 3, 3), (4, 1, 1)])
        self.assertEqual(happened_by(die(2), begin(), fail(2, 1)), [(2, 2, 2), (3, 2, 0), (0, 2, 4)])

    def test_starts_that_were_not_tried_are_still_to_fail(self):
        stand = after(begin(), fail(2, 5), die(2))
        self.assertEqual(stand.nodes[1].failing, 3)
        self.assertEqual(asked(begin(), fail(2, 5), die(2), begin(), begin(), begin(), begin()),
                         [[1, 3], [0], [5, 0], [0, 3], [0, 3], [0, 3], [1, 3]])

    def test_all_at_the_first(self):
        self.assertEqual(happened_by(die(3), *self.line(1), fail(2, 1)),
                         [(2, 3, 3), (1, 5, 5), (1, 4, 4), (1, 2, 2), (3, 2, 0),
                          (0, 2, 6), (0, 3, 7), (0, 4, 8), (0, 5, 9)])

    def test_all_at_a_middle_one(self):
        before = [*self.line(1), fail(4, 2)]
        self.assertEqual(happened_by(die(3), *before),
                         [(2, 3, 3), (1, 5, 5), (1, 4, 4), (1, 2, 2), (0, 2, 6), (0, 3, 7), (3, 4, 0),
                          (1, 3, 7), (1, 2, 6), (0, 2, 8), (0, 3, 9), (3, 4, 0),
                          (1, 3, 9), (1, 2, 8), (0, 2, 10), (0, 3, 11), (0, 4, 12), (0, 5, 13)])
        self.assertEqual(after(*before, die(3)).nodes[0].times, [0, 0, 0])

    def test_all_at_the_last(self):
        self.assertEqual(happened_by(die(2), tree(keeper(0, way=1), worker(1), worker(1)), begin(), fail(3, 1)),
                         [(2, 2, 2), (1, 3, 3), (0, 2, 4), (3, 3, 0), (1, 2, 4), (0, 2, 5), (0, 3, 6)])

    def test_all_till_the_keeper_gives_up(self):
        self.assertEqual(happened_by(die(2), tree(keeper(0, way=1, often=1), worker(1), worker(1)), begin(), fail(3, 1)),
                         [(2, 2, 2), (1, 3, 3), (0, 2, 4), (3, 3, 0), (1, 2, 4), (4, 1, 1)])

    def test_the_rest_at_the_one_itself(self):
        self.assertEqual(happened_by(die(3), *self.line(2), fail(3, 1)),
                         [(2, 3, 3), (1, 5, 5), (1, 4, 4), (3, 3, 0), (0, 3, 6), (0, 4, 7), (0, 5, 8)])

    def test_the_rest_goes_on_from_the_one_that_failed(self):
        self.assertEqual(happened_by(die(2), *self.line(2), fail(4, 2)),
                         [(2, 2, 2), (1, 5, 5), (1, 4, 4), (1, 3, 3), (0, 2, 6), (0, 3, 7), (3, 4, 0), (3, 4, 0),
                          (0, 4, 8), (0, 5, 9)])

    def test_the_rest_at_the_last(self):
        self.assertEqual(happened_by(die(3), *self.line(2), fail(5, 1)),
                         [(2, 3, 3), (1, 5, 5), (1, 4, 4), (0, 3, 6), (0, 4, 7), (3, 5, 0), (0, 5, 8)])

    def test_the_rest_till_the_keeper_gives_up(self):
        self.assertEqual(happened_by(die(3), *self.line(2, often=2), fail(4, 2)),
                         [(2, 3, 3), (1, 5, 5), (1, 4, 4), (0, 3, 6), (3, 4, 0), (3, 4, 0),
                          (1, 3, 6), (1, 2, 2), (4, 1, 1)])

    def test_several_that_fail_one_behind_the_other(self):
        self.assertEqual(happened_by(die(2), *self.line(2), fail(2, 1), fail(3, 1), fail(5, 1)),
                         [(2, 2, 2), (1, 5, 5), (1, 4, 4), (1, 3, 3), (3, 2, 0), (0, 2, 6), (3, 3, 0),
                          (0, 3, 7), (0, 4, 8), (3, 5, 0), (0, 5, 9)])

    def test_those_of_kind_2_stay_gone_meanwhile(self):
        self.assertEqual(happened_by(die(2), *self.line(1, kinds=(0, 2, 0, 2)), fail(4, 1), fail(3, 1)),
                         [(2, 2, 2), (1, 5, 5), (1, 4, 4), (1, 3, 3), (0, 2, 6), (3, 4, 0), (1, 2, 6),
                          (0, 2, 7), (0, 4, 8)])

    def test_one_that_had_ended_as_it_should_is_begun_again_too(self):
        self.assertEqual(happened_by(die(2), *self.line(2, kinds=(0, 1, 0, 0)), die(3, 0), fail(3, 1)),
                         [(2, 2, 2), (1, 5, 5), (1, 4, 4), (0, 2, 6), (3, 3, 0), (0, 3, 7), (0, 4, 8), (0, 5, 9)])

    def test_keepers_own_start(self):
        rows = tree(keeper(0), keeper(1, often=0), worker(2))
        self.assertEqual(happened_by(die(3), rows, begin(), fail(2, 1)),
                         [(2, 3, 3), (4, 2, 2), (3, 2, 0), (0, 2, 4), (0, 3, 5)])

    def test_in_a_node_below(self):
        rows = tree(keeper(0), worker(1), keeper(1, often=0), worker(3), worker(3))
        before = [rows, begin(), fail(5, 1)]
        self.assertEqual(happened_by(die(4), *before),
                         [(2, 4, 4), (1, 5, 5), (4, 3, 3), (0, 3, 6), (0, 4, 7), (3, 5, 0), (1, 4, 7), (1, 3, 6),
                          (0, 3, 8), (0, 4, 9), (0, 5, 10)])
        self.assertEqual(after(*before, die(4)).nodes[0].times, [0, 0])
        self.assertEqual(asked(rows, begin(), fail(5, 2), die(4), begin())[3:], [[15, 0], [1, 5]])

    def test_in_a_node_far_below_while_all_is_begun_again(self):
        rows = tree(keeper(0, way=1), worker(1), keeper(1), keeper(3), worker(4))
        self.assertEqual(happened_by(die(2), rows, begin(), fail(5, 1)),
                         [(2, 2, 2), (1, 5, 5), (1, 4, 4), (1, 3, 3), (0, 2, 6), (0, 3, 7), (0, 4, 8), (3, 5, 0),
                          (1, 4, 8), (1, 3, 7), (1, 2, 6), (0, 2, 9), (0, 3, 10), (0, 4, 11), (0, 5, 12)])

    def test_keepers_give_up_one_above_the_other(self):
        rows = tree(keeper(0, often=1), keeper(1, often=1), worker(2), worker(1))
        self.assertEqual(happened_by(die(3), rows, begin(), fail(3, 2)),
                         [(2, 3, 3), (3, 3, 0), (4, 2, 2), (0, 2, 5), (3, 3, 0), (1, 2, 5), (1, 4, 4), (4, 1, 1)])
        self.assertEqual(happened_by(die(3), rows, begin(), fail(3, 1)),
                         [(2, 3, 3), (3, 3, 0), (4, 2, 2), (0, 2, 5), (0, 3, 6)])

    def test_keeper_of_kind_2_is_gone_by_it(self):
        rows = tree(keeper(0, often=0), keeper(1, kind=2, often=1), worker(2), worker(1))
        stand = after(rows, begin(), fail(3, 1), die(3))
        self.assertEqual((running(stand), gone(stand)), ([1, 4], [2]))


if __name__ == "__main__":
    unittest.main()
