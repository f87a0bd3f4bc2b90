"""A tree of workers and keepers: what ends is begun again by its keeper, or its keeper gives up."""

# The calls; 8 is the one that's left: up.
TREE = 0
FAIL = 1
BEGIN = 2
DIE = 3
TIME = 4
STOP = 5
LOG = 6
NODE = 7

# How many numbers stand behind each call's own; for tree the list itself tells.
CALL_SIZES = {1: 2, 2: 0, 3: 2, 4: 1, 5: 0, 6: 1, 7: 1, 8: 0}

# Refusals.
NOT_ALLOWED = -1
NOT_NOW = -8

# What may happen.
STARTED = 0
STOPPED = 1
DIED = 2
START_FAILED = 3
GAVE_UP = 4

# Kinds of nodes; 1 is the one that's left: till it ends as it should.
FOR_EVER = 0
ONCE = 2

# Ways of keepers; 2 is the one that's left: the rest.
ALONE = 0
ALL = 1

# How a node ends.
AS_IT_SHOULD = 0
OTHERWISE = 1

NODE_SIZE = 6
MOST_NODES = 14
MOST_FAILS = 20
LAST_TIME = 1000000

# The greatest numbers that tell a node, but for its parent: keeper, kind, way, how often, how long a while.
MOST_TOLD = (1, 2, 2, 5, 1000)

# A keeper (way 0, twice in 10) with two workers of kind 0.
FIRST_TREE = (0, 1, 0, 0, 2, 10, 1, 0, 0, 0, 0, 0, 1, 0, 0, 0, 0, 0)


class Node:
    def __init__(self, number, parent, told):
        self.number = number
        self.parent = parent
        self.keeper = told[1] == 1
        self.kind = told[2]
        self.way = told[3]
        self.often = told[4]
        self.span = told[5]
        self.children = []
        self.place = 0
        self.run = 0
        self.gone = False
        self.times = []
        self.failing = 0


class Tree:
    def __init__(self):
        self.plant(list(FIRST_TREE))

    def plant(self, numbers):
        self.nodes = planted(numbers)
        self.now = 0
        self.runs = 0
        self.happened = []

    def tell(self, what, node):
        self.happened.append((what, node.number, node.run))

    # Answers whether the start didn't fail.
    def start_node(self, node):
        if node.failing > 0:
            node.failing -= 1
            self.tell(START_FAILED, node)
            return False
        self.runs += 1
        node.run = self.runs
        node.times = []
        for child in node.children:
            child.gone = False
        self.tell(STARTED, node)
        if self.start_in_order(node.children) is None:
            return True
        self.stop_node(node)
        return False

    # Answers the node whose start failed, or None; those behind it aren't tried.
    def start_in_order(self, nodes):
        for node in nodes:
            if not node.gone and not self.start_node(node):
                return node
        return None

    def stop_node(self, node):
        self.stop_running(node.children)
        self.tell(STOPPED, node)
        node.run = 0

    def stop_running(self, nodes):
        for node in reversed(nodes):
            if node.run > 0:
                self.stop_node(node)

    def worker_dies(self, worker, how):
        self.tell(DIED, worker)
        worker.run = 0
        self.has_ended(worker, how)

    def has_ended(self, node, how):
        if node.parent is None:
            return
        if node.kind == ONCE:
            node.gone = True
        elif node.kind == FOR_EVER or how != AS_IT_SHOULD:
            self.begin_again(node)

    # A start that fails is begun again like what ended, so one loop serves both; how often bounds it.
    def begin_again(self, child):
        keeper = child.parent
        ended = child
        while ended is not None:
            self.count_now(keeper)
            if len(keeper.times) > keeper.often:
                self.give_up(keeper)
                return
            ended = self.begin_by_way(keeper, ended)

    def recent_times(self, node):
        return [moment for moment in node.times if self.now - moment <= node.span]

    # Those longer ago may be dropped for good, as the time never goes back.
    def count_now(self, keeper):
        keeper.times = self.recent_times(keeper) + [self.now]

    def give_up(self, keeper):
        self.stop_running(keeper.children)
        self.tell(GAVE_UP, keeper)
        keeper.run = 0
        keeper.times = []
        self.has_ended(keeper, OTHERWISE)

    # The child itself neither runs nor is of kind 2, so it needs no exception among those begun again.
    # Answers the node whose start failed, or None.
    def begin_by_way(self, keeper, child):
        if keeper.way == ALONE:
            again = [child]
        elif keeper.way == ALL:
            again = keeper.children
        else:
            again = keeper.children[child.place:]
        self.stop_running(again)
        for node in again:
            if node.kind == ONCE:
                node.gone = True
        return self.start_in_order(again)


def rows_of(numbers):
    return [numbers[first:first + NODE_SIZE] for first in range(0, len(numbers), NODE_SIZE)]


def planted(numbers):
    nodes = []
    for row in rows_of(numbers):
        if row[0] == 0:
            nodes.append(Node(1, None, row))
        else:
            parent = nodes[row[0] - 1]
            node = Node(len(nodes) + 1, parent, row)
            node.place = len(parent.children)
            parent.children.append(node)
            nodes.append(node)
    return nodes


def is_tree(numbers):
    if len(numbers) % NODE_SIZE != 0:
        return False
    rows = rows_of(numbers)
    if len(rows) < 1 or len(rows) > MOST_NODES:
        return False
    if rows[0][0] != 0 or rows[0][1] != 1:
        return False
    for place, row in enumerate(rows):
        if not is_within(row):
            return False
        if place > 0 and not is_parent(rows[:place], row[0]):
            return False
    return True


def is_within(row):
    for told, most in zip(row[1:], MOST_TOLD):
        if told > most:
            return False
    return True


def is_parent(rows_before, parent):
    return parent >= 1 and parent <= len(rows_before) and rows_before[parent - 1][1] == 1


def has_node(tree, number):
    return number >= 1 and number <= len(tree.nodes)


def answer_tree(tree, numbers):
    if not is_tree(numbers):
        return [NOT_ALLOWED]
    tree.plant(numbers)
    return [len(tree.nodes)]


def answer_fail(tree, number, starts):
    if not has_node(tree, number) or starts > MOST_FAILS:
        return [NOT_ALLOWED]
    node = tree.nodes[number - 1]
    node.failing = starts
    return [0]


def answer_begin(tree):
    root = tree.nodes[0]
    if root.run > 0:
        return [NOT_NOW]
    before = len(tree.happened)
    started = tree.start_node(root)
    return [1 if started else 0, len(tree.happened) - before]


def answer_die(tree, number, how):
    if not has_node(tree, number) or how > OTHERWISE:
        return [NOT_ALLOWED]
    node = tree.nodes[number - 1]
    if node.keeper:
        return [NOT_ALLOWED]
    if node.run == 0:
        return [NOT_NOW]
    before = len(tree.happened)
    tree.worker_dies(node, how)
    return [len(tree.happened) - before, 1 if tree.nodes[0].run > 0 else 0]


def answer_time(tree, moment):
    if moment < tree.now or moment > LAST_TIME:
        return [NOT_ALLOWED]
    tree.now = moment
    return [moment]


def answer_stop(tree):
    root = tree.nodes[0]
    if root.run == 0:
        return [NOT_NOW]
    before = len(tree.happened)
    tree.stop_node(root)
    return [len(tree.happened) - before]


def answer_log(tree, known):
    behind = tree.happened[known:]
    answer = [len(behind)]
    for thing in behind:
        answer.extend(thing)
    return answer


def answer_node(tree, number):
    if not has_node(tree, number):
        return [NOT_ALLOWED]
    node = tree.nodes[number - 1]
    return [node.run, 1 if node.gone else 0, len(tree.recent_times(node)), node.failing]


def answer_up(tree):
    running = [node.number for node in tree.nodes if node.run > 0]
    return [len(running)] + running


def answer_call(tree, call, told):
    if call == TREE:
        return answer_tree(tree, told)
    if call == FAIL:
        return answer_fail(tree, told[0], told[1])
    if call == BEGIN:
        return answer_begin(tree)
    if call == DIE:
        return answer_die(tree, told[0], told[1])
    if call == TIME:
        return answer_time(tree, told[0])
    if call == STOP:
        return answer_stop(tree)
    if call == LOG:
        return answer_log(tree, told[0])
    if call == NODE:
        return answer_node(tree, told[0])
    return answer_up(tree)


def answers(calls):
    tree = Tree()
    answered = []
    place = 0
    while place < len(calls):
        call = calls[place]
        first = place + 1
        if call == TREE:
            size = calls[first]
            first += 1
        else:
            size = CALL_SIZES[call]
        place = first + size
        answer = answer_call(tree, call, calls[first:place])
        answered.append(len(answer))
        answered.extend(answer)
    return answered
