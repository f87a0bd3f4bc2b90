"""How the tests spell calls, and how they look at a tree: by log, node and up, and at all that it keeps."""

from lookafter import keepers

STARTED, STOPPED, DIED, START_FAILED, GAVE_UP = range(5)
MOST = 4294967295


def keeper(parent, kind=0, way=0, often=2, span=10):
    return [parent, 1, kind, way, often, span]


def worker(parent, kind=0):
    return [parent, 0, kind, 0, 0, 0]


def tree(*rows):
    numbers = [number for row in rows for number in row]
    return [0, len(numbers)] + numbers


def fail(i, n):
    return [1, i, n]


def begin():
    return [2]


def die(i, how=1):
    return [3, i, how]


def time(t):
    return [4, t]


def stop():
    return [5]


def log(n=0):
    return [6, n]


def node(i):
    return [7, i]


def up():
    return [8]


def line(*calls):
    return [number for call in calls for number in call]


def split(answered):
    """The flat list of answers, as one list for each call."""
    parts = []
    place = 0
    while place < len(answered):
        behind = place + 1 + answered[place]
        parts.append(answered[place + 1:behind])
        assert len(parts[-1]) == answered[place] > 0
        place = behind
    return parts


def asked(*calls):
    return split(keepers.answers(line(*calls)))


def things(answer):
    """What log answers, as what, who and run for each."""
    numbers = answer[1:]
    assert len(numbers) == 3 * answer[0]
    return list(zip(numbers[::3], numbers[1::3], numbers[2::3]))


def do(stand, call):
    """One call on a tree that's at hand, with its answer."""
    return keepers.answer_call(stand, call[0], call[2:] if call[0] == 0 else call[1:])


def after(*calls):
    """The tree as it stands behind these calls."""
    stand = keepers.Tree()
    for call in calls:
        do(stand, call)
    return stand


def happened_by(call, *before):
    """What happened by the call, behind those before."""
    first = asked(*before, log())[-1][0]
    return things(asked(*before, call, log(first))[-1])


def running(stand):
    return do(stand, up())[1:]


def gone(stand):
    return [i + 1 for i in range(len(stand.nodes)) if do(stand, node(i + 1))[1]]


def looks(nodes):
    """The calls that tell all that may be asked for about a tree of so many nodes."""
    return [log(), up()] + [node(i + 1) for i in range(nodes)]


def state(stand):
    """All that a tree keeps, as plain values."""
    nodes = []
    for kept in stand.nodes:
        values = dict(vars(kept))
        values["parent"] = kept.parent.number if kept.parent else 0
        values["children"] = [child.number for child in kept.children]
        values["times"] = list(kept.times)
        nodes.append(values)
    return nodes, stand.now, stand.runs, list(stand.happened)
