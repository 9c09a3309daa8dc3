"""What the tests share: calls as lists, the form of an answer, and what is shown of a tree."""

import copy

GREATEST = 4294967295


def begin():
    return [0]


def add(parent):
    return [1, parent]


def drop(node):
    return [2, node]


def fold(node, shut):
    return [3, node, shut]


def line(*calls):
    """One list of the calls, one behind another."""
    return [number for call in calls for number in call]


def each_one(*numbers):
    """The answer in which each call answers one number."""
    return [part for number in numbers for part in (1, number)]


def chain(length):
    """Calls that add a row of single children below the root: 1 below 0, 2 below 1, and so on."""
    return [add(parent) for parent in range(length)]


def state(tree):
    """All that the tree holds, as a copy that stays as it is."""
    return copy.deepcopy((tree.standing, tree.parents, tree.rows, tree.shut))


def shown(tree):
    """The nodes that are shown, in their order, told from rows and shut alone."""
    found = []
    waiting = [0]
    while waiting:
        node = waiting.pop()
        found.append(node)
        # A tree gone wrong may run in a ring: that is to fail, not to go on for ever.
        if len(found) > 128:
            raise AssertionError("more than 128 nodes are shown")
        if node not in tree.shut:
            waiting.extend(reversed(tree.rows[node]))
    return found
