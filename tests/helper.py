"""How the tests spell calls, and how they look at what can't be asked for by a call."""

from lookafter import keepers

STARTED, STOPPED, DIED, START_FAILED, GAVE_UP = range(5)
MOST = 4294967295


def keeper(parent, kind=0, way=0, often=2, span=10):
    return [parent, 1, kind, way, often, span]


def worker(parent, kind=0):
    return [parent, 0, kind, 0, 0, 0]


def tree(*rows):
    numbers = [number for row in rows for number in row]
    return [0, len(numbers)] + numbers


def fail(i, n):
    return [1, i, n]


def begin():
    return [2]


def die(i, how=1):
    return [3, i, how]


def time(t):
    return [4, t]


def line(*calls):
    return [number for call in calls for number in call]


def split(answered):
    """The flat list of answers, as one list for each call."""
    parts = []
    place = 0
    while place < len(answered):
        behind = place + 1 + answered[place]
        parts.append(answered[place + 1:behind])
        assert len(parts[-1]) == answered[place] > 0
        place = behind
    return parts


def asked(*calls):
    return split(keepers.answers(line(*calls)))


def do(stand, call):
    """One call on a tree that's at hand, with its answer."""
    return keepers.answer_call(stand, call[0], call[2:] if call[0] == 0 else call[1:])


def after(*calls):
    """The tree as it stands behind these calls."""
    stand = keepers.Tree()
    for call in calls:
        do(stand, call)
    return stand


def happened_by(call, *before):
    """What happened by the call, behind those before."""
    stand = after(*before)
    first = len(stand.happened)
    do(stand, call)
    return stand.happened[first:]


def running(stand):
    return [node.number for node in stand.nodes if node.run > 0]


def gone(stand):
    return [node.number for node in stand.nodes if node.gone]


def state(stand):
    """All that a tree keeps, as plain values."""
    nodes = []
    for node in stand.nodes:
        values = dict(vars(node))
        values["parent"] = node.parent.number if node.parent else 0
        values["children"] = [child.number for child in node.children]
        values["times"] = list(node.times)
        nodes.append(values)
    return nodes, stand.now, stand.runs, list(stand.happened)
