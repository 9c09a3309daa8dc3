"""The calls on one tree, read from a list and answered in a list; and how what is shown of it is drawn."""

ROOT = 0
MOST_NODES = 128
# How far apart two nodes of one layer stand at least.
NEAREST = 2

NOT_THERE = -2
NOT_ALLOWED = -22
NO_ROOM = -28

BEGIN = 0
ADD = 1
DROP = 2
FOLD = 3
GO = 4
PICK = 5
AT = 6

# Of each call by its number, show (7) too: how many numbers stand behind it.
NUMBERS_BEHIND = {0: 0, 1: 1, 2: 1, 3: 2, 4: 1, 5: 2, 6: 0, 7: 0}

UP = 0
DOWN = 1
ONWARD = 2
BACK = 3


# An outline holds of each layer, from the uppermost on, the leftmost and the rightmost place.
def moved(outline, move):
    return [(left + move, right + move) for left, right in outline]


def least_move(before, outline):
    needed = [ahead[1] + NEAREST - behind[0] for ahead, behind in zip(before, outline)]
    # Nothing stands ahead of a first child: it isn't moved.
    most = max(needed, default=0)
    # An even number, so that the middle between the first and the last child is a whole one.
    return most + most % 2


# Both outlines begin in the same layer, and in each that both have the second stands behind the first.
def joined(before, outline):
    both = [(ahead[0], behind[1]) for ahead, behind in zip(before, outline)]
    deeper = before if len(before) > len(outline) else outline
    return both + deeper[len(both):]


class Drawing:
    # What is below a node, drawn by itself with the node at 0: the outline of all of it,
    # and moves, which tells of each child of the node how far from the node it stands.
    def __init__(self, children):
        outline = []
        moves = []
        for child in children:
            move = least_move(outline, child.outline)
            outline = joined(outline, moved(child.outline, move))
            moves.append(move)
        middle = moves[-1] // 2 if moves else 0
        self.outline = [(0, 0)] + moved(outline, -middle)
        self.moves = [move - middle for move in moves]


# Of each node of nodes, which holds a node ahead of its children: its layer and its place.
def drawn(nodes, rows):
    drawings = {}
    for node in reversed(nodes):
        drawings[node] = Drawing([drawings[child] for child in rows[node]])
    leftmost = min([left for left, right in drawings[ROOT].outline])
    spots = {ROOT: (0, -leftmost)}
    for node in nodes:
        layer = spots[node][0]
        place = spots[node][1]
        for child, move in zip(rows[node], drawings[node].moves):
            spots[child] = (layer + 1, place + move)
    return spots


class Tree:
    # parents tells which nodes are there; rows holds each node's children in their row;
    # shut holds only the nodes that are shut, so a new node has nothing to be set there.
    def __init__(self):
        self.begin()

    def begin(self):
        self.parents = {ROOT: None}
        self.rows = {ROOT: []}
        self.shut = {}
        self.standing = ROOT
        return 0

    def add(self, parent):
        if parent not in self.parents:
            return NOT_THERE
        if len(self.parents) == MOST_NODES:
            return NO_ROOM
        node = self.least_free()
        self.parents[node] = parent
        self.rows[node] = []
        self.rows[parent].append(node)
        return node

    def drop(self, node):
        if node not in self.parents:
            return NOT_THERE
        if node == ROOT:
            return NOT_ALLOWED
        parent = self.parents[node]
        # Asked while the way up is still there.
        if self.stands_within(node):
            self.standing = parent
        self.rows[parent].remove(node)
        gone = self.all_within(node)
        for each in gone:
            self.forget(each)
        return len(gone)

    def fold(self, node, shut):
        if node not in self.parents:
            return NOT_THERE
        if shut > 1:
            return NOT_ALLOWED
        if shut == 0:
            self.shut.pop(node, None)
            return 0
        self.shut[node] = True
        # What is below is not shown any more, and one stands only where something is shown.
        if self.stands_within(node):
            self.standing = node
        return 0

    def go(self, way):
        if way > BACK:
            return NOT_ALLOWED
        node = self.reached(way)
        if node is None:
            return NOT_THERE
        self.standing = node
        return node

    def pick(self, x, y):
        for node, layer, place in self.drawn_nodes():
            if layer == y and place in (x, x - 1):
                self.standing = node
                return node
        return NOT_THERE

    def at(self):
        return self.standing

    def show(self):
        found = self.drawn_nodes()
        numbers = [len(found)]
        for node in found:
            numbers.extend(node)
        return numbers

    def reached(self, way):
        if way == UP:
            return self.parents[self.standing]
        if way == DOWN:
            row = self.row_shown(self.standing)
            return row[0] if row else None
        if way == ONWARD:
            return self.beside(1)
        return self.beside(-1)

    def beside(self, step):
        if self.standing == ROOT:
            return None
        row = self.rows[self.parents[self.standing]]
        there = row.index(self.standing) + step
        # Asked for both ends: an index below 0 would be read from the row's end.
        return row[there] if 0 <= there < len(row) else None

    def row_shown(self, node):
        return [] if node in self.shut else self.rows[node]

    # Each node that is shown ahead of its children, these in their row, each with what is below it.
    def all_shown(self):
        found = []
        waiting = [ROOT]
        while waiting:
            here = waiting.pop()
            found.append(here)
            # The last that waits is taken first.
            waiting.extend(list(reversed(self.row_shown(here))))
        return found

    def drawn_nodes(self):
        nodes = self.all_shown()
        rows = {}
        for node in nodes:
            rows[node] = self.row_shown(node)
        spots = drawn(nodes, rows)
        return [(node, spots[node][0], spots[node][1]) for node in nodes]

    def least_free(self):
        node = ROOT
        while node in self.parents:
            node = node + 1
        return node

    # Within a node is the node itself and all that is below it.
    def stands_within(self, node):
        here = self.standing
        while here != node and here != ROOT:
            here = self.parents[here]
        return here == node

    def all_within(self, node):
        found = []
        waiting = [node]
        while waiting:
            here = waiting.pop()
            found.append(here)
            waiting.extend(self.rows[here])
        return found

    # The number may be taken again, by a node that has nothing of this one.
    def forget(self, node):
        self.parents.pop(node)
        self.rows.pop(node)
        self.shut.pop(node, None)


# A list, since show answers more than one number.
def answer(tree, call, numbers):
    if call == BEGIN:
        return [tree.begin()]
    if call == ADD:
        return [tree.add(numbers[0])]
    if call == DROP:
        return [tree.drop(numbers[0])]
    if call == FOLD:
        return [tree.fold(numbers[0], numbers[1])]
    if call == GO:
        return [tree.go(numbers[0])]
    if call == PICK:
        return [tree.pick(numbers[0], numbers[1])]
    if call == AT:
        return [tree.at()]
    return tree.show()


def answers(calls):
    tree = Tree()
    answered = []
    here = 0
    while here < len(calls):
        call = calls[here]
        behind = here + 1 + NUMBERS_BEHIND[call]
        numbers = answer(tree, call, calls[here + 1:behind])
        answered.append(len(numbers))
        answered.extend(numbers)
        here = behind
    return answered
