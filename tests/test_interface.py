"""The interface: how calls and answers are spelled, and that nothing is changed, kept, printed or imported."""

import ast
import contextlib
import inspect
import io
import unittest

from lookafter import keepers
from tests.helper import begin, die, fail, keeper, line, log, node, stop, time, tree, up, worker

MANY = line(begin(), die(2), fail(3, 1), die(3), time(4), log(0), node(1), up(), stop(), stop(), node(1), begin(),
            tree(keeper(0, way=1), worker(1), worker(1, kind=2)), log(0), up(), fail(2, 2), begin(), node(2), die(9),
            tree(keeper(1)), time(1000001), begin(), begin(), die(2), node(3), node(4), log(2), up(), stop(), log(99))


class Interface(unittest.TestCase):
    def test_numbers_stand_as_told(self):
        calls = [2, 3, 2, 1, 1, 2, 1, 4, 6, 4, 5, 0, 12, 0, 1, 0, 0, 2, 10, 1, 0, 0, 0, 0, 0, 2]
        self.assertEqual(keepers.answers(calls), [2, 1, 3, 2, 2, 1, 1, 0, 1, 6, 1, -1, 1, 2, 2, 1, 2])

    def test_stop_log_node_and_up_stand_as_told(self):
        calls = [8, 6, 0, 5, 7, 1, 2, 8, 6, 1, 7, 3, 3, 3, 1, 7, 1, 7, 4, 5, 6, 5, 8, 5]
        self.assertEqual(keepers.answers(calls),
                         [1, 0, 1, 0, 1, -8, 4, 0, 0, 0, 0, 2, 1, 3, 4, 3, 1, 2, 3, 7, 2, 0, 2, 2, 0, 3, 3,
                          4, 3, 0, 0, 0, 2, 2, 1, 4, 1, 0, 1, 0, 1, -1, 1, 3,
                          10, 3, 1, 3, 4, 1, 2, 2, 1, 1, 1, 1, 0, 1, -8])

    def test_each_call_alone_in_a_line(self):
        alone = {(0, 0): [1, -1], (1, 1, 0): [1, 0], (2,): [2, 1, 3], (3, 2, 0): [1, -8], (4, 1): [1, 1], (5,): [1, -8],
                 (6, 0): [1, 0], (7, 3): [4, 0, 0, 0, 0], (8,): [1, 0]}
        for calls, answered in alone.items():
            self.assertEqual(keepers.answers(list(calls)), answered, calls)

    def test_tree_that_is_refused_is_passed_over_by_its_own_count(self):
        for size in (0, 1, 5, 7, 11, 90, 95, 96):
            self.assertEqual(keepers.answers([0, size] + [2] * size + [2]), [1, -1, 2, 1, 3], size)

    def test_one_argument_called_calls(self):
        self.assertEqual(list(inspect.signature(keepers.answers).parameters), ["calls"])
        self.assertEqual(keepers.answers(calls=[2]), [2, 1, 3])

    def test_line_begins_with_a_keeper_and_two_workers_at_0(self):
        stand = keepers.Tree()
        told = [(node.parent.number if node.parent else 0, node.keeper, node.kind) for node in stand.nodes]
        self.assertEqual(told, [(0, True, 0), (1, False, 0), (1, False, 0)])
        root = stand.nodes[0]
        self.assertEqual((root.way, root.often, root.span), (0, 2, 10))
        self.assertEqual([node.run for node in stand.nodes], [0, 0, 0])
        self.assertEqual((stand.now, stand.runs, stand.happened), (0, 0, []))

    def test_sixty_calls(self):
        self.assertEqual(keepers.answers([4, 0] * 60), [1, 0] * 60)
        self.assertEqual(keepers.answers([2, 8, 5, 8] * 15), [2, 1, 3, 4, 3, 1, 2, 3, 1, 3, 1, 0] * 15)

    def test_what_is_handed_in_is_not_changed(self):
        handed = list(MANY)
        keepers.answers(handed)
        self.assertEqual(handed, MANY)

    def test_what_is_handed_in_is_not_changed_for_a_while_either(self):
        class Watched(list):
            def refuse(self, *told):
                raise AssertionError("changed")
            __setitem__ = __delitem__ = __iadd__ = __imul__ = refuse
            append = extend = insert = pop = remove = clear = sort = reverse = refuse

        self.assertEqual(keepers.answers(Watched(MANY)), keepers.answers(list(MANY)))

    def test_gives_back_a_new_list_of_whole_numbers(self):
        answered = keepers.answers(MANY)
        self.assertIs(type(answered), list)
        self.assertEqual({type(number) for number in answered}, {int})
        answered.clear()
        self.assertNotEqual(keepers.answers(MANY), [])

    def test_nothing_is_kept(self):
        fresh = keepers.answers([2])
        first = keepers.answers(MANY)
        self.assertEqual(keepers.answers(MANY), first)
        self.assertEqual(keepers.answers([2]), fresh)
        for spoiler in ([1, 2, 5], [4, 100], [2], tree(keeper(0)), [2, 3, 2, 1, 3, 2, 1, 3, 2, 1], [2, 5], [2, 6, 0, 8]):
            keepers.answers(spoiler)
            self.assertEqual(keepers.answers(MANY), first)

    def test_nothing_is_printed(self):
        printed = io.StringIO()
        with contextlib.redirect_stdout(printed), contextlib.redirect_stderr(printed):
            keepers.answers(MANY)
        self.assertEqual(printed.getvalue(), "")

    def test_nothing_is_imported_or_read(self):
        walked = list(ast.walk(ast.parse(inspect.getsource(keepers))))
        self.assertEqual([node for node in walked if isinstance(node, (ast.Import, ast.ImportFrom))], [])
        names = {node.id for node in walked if isinstance(node, ast.Name)}
        self.assertEqual(names & {"open", "input", "print", "exec", "eval", "compile", "__import__"}, set())


if __name__ == "__main__":
    unittest.main()
