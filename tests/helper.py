"""What the tests share: calls as lists, the form of an answer, what is shown, and a slow and plain way of drawing."""

import copy

from walktree.walked import answers

GREATEST = 4294967295
LEFTMOST = -2147483648
RIGHTMOST = 2147483647

UP, DOWN, ONWARD, BACK = range(4)


def begin():
    return [0]


def add(parent):
    return [1, parent]


def drop(node):
    return [2, node]


def fold(node, shut):
    return [3, node, shut]


def go(way):
    return [4, way]


def pick(x, y):
    return [5, x, y]


def at():
    return [6]


def show():
    return [7]


def line(*calls):
    """One list of the calls, one behind another."""
    return [number for call in calls for number in call]


def each_one(*numbers):
    """The answer in which each call answers one number."""
    return [part for number in numbers for part in (1, number)]


def parted(given):
    """The answer as a list of what each call answered."""
    parts = []
    here = 0
    while here < len(given):
        behind = here + 1 + given[here]
        if given[here] < 1 or behind > len(given):
            raise AssertionError("how many numbers are answered is told wrong")
        parts.append(given[here + 1:behind])
        here = behind
    return parts


def asked(*calls):
    """What each of the calls answered, and that there are as many answers as calls."""
    parts = parted(answers(line(*calls)))
    if len(parts) != len(calls):
        raise AssertionError("not one answer for each call")
    return parts


def told(*calls):
    """The one number that each of the calls answered."""
    parts = asked(*calls)
    if [part for part in parts if len(part) != 1]:
        raise AssertionError("a call answered more than one number")
    return [part[0] for part in parts]


def spots(part):
    """What show answered, as triples of a node's number, its layer and its place."""
    if len(part) != 1 + 3 * part[0]:
        raise AssertionError("show tells another count than that of the nodes behind it")
    return [tuple(part[here:here + 3]) for here in range(1, len(part), 3)]


def shown_behind(*calls):
    """What a show behind the calls shows, as triples."""
    return spots(asked(*calls, show())[-1])


def grow(parents):
    """Calls that add a node below each of the parents: 1 below the first, 2 below the second, and so on."""
    return [add(parent) for parent in parents]


def chain(length):
    """Calls that add a row of single children below the root: 1 below 0, 2 below 1, and so on."""
    return grow(range(length))


def state(tree):
    """All that the tree holds, as a copy that stays as it is."""
    return copy.deepcopy((tree.standing, tree.parents, tree.rows, tree.shut))


def shown(tree):
    """The nodes that are shown, in their order, told from rows and shut alone."""
    found = []
    waiting = [0]
    while waiting:
        node = waiting.pop()
        found.append(node)
        # A tree gone wrong may run in a ring: that is to fail, not to go on for ever.
        if len(found) > 128:
            raise AssertionError("more than 128 nodes are shown")
        if node not in tree.shut:
            waiting.extend(reversed(tree.rows[node]))
    return found


# From here on a tree is told as T tells it: a list of each node's parent, 255 for node 0; a parent's number is less
# than its children's, and children stand in the order of their numbers.


def children_of(parents, node):
    return [each for each in range(len(parents)) if parents[each] == node]


def plain_layer(parents, node):
    return 0 if node == 0 else 1 + plain_layer(parents, parents[node])


def far_enough(before, own, move):
    """Whether own, moved so far, stands in every layer 2 or more places behind before; both: node: (layer, place)."""
    for layer in {layer for layer, place in own.values()}:
        left = min(place + move for where, place in own.values() if where == layer)
        others = [place for where, place in before.values() if where == layer]
        if others and left < max(others) + 2:
            return False
    return True


def moved_by(drawing, move):
    return {node: (layer, place + move) for node, (layer, place) in drawing.items()}


def plain_below(parents, node, layer):
    """All that's below the node, itself at 0: node: (layer, place). Word for word as T has it, with no thought of
    time."""
    children = children_of(parents, node)
    drawing = {}
    for child in children:
        own = plain_below(parents, child, layer + 1)
        move = 0
        while not far_enough(drawing, own, move):
            move += 2
        drawing.update(moved_by(own, move))
    if children:
        twice = drawing[children[0]][1] + drawing[children[-1]][1]
        if twice % 2:
            raise AssertionError("the middle is no whole number")
        drawing = moved_by(drawing, -(twice // 2))
    drawing[node] = (layer, 0)
    return drawing


def plain_drawing(parents):
    """Of each node, in the order of the numbers, its layer and its place."""
    drawing = plain_below(parents, 0, 0)
    drawing = moved_by(drawing, -min(place for layer, place in drawing.values()))
    return [drawing[node] for node in range(len(parents))]
