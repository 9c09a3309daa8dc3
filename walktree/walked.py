"""The calls on one tree: begin, add, drop and fold, read from a list and answered in a list."""

ROOT = 0
MOST_NODES = 128

NOT_THERE = -2
NOT_ALLOWED = -22
NO_ROOM = -28

BEGIN = 0
ADD = 1
DROP = 2
FOLD = 3

# Of each call by its number: how many numbers stand behind it.
NUMBERS_BEHIND = {0: 0, 1: 1, 2: 1, 3: 2}


class Tree:
    # parents tells which nodes are there; rows holds each node's children in their row;
    # shut holds only the nodes that are shut, so a new node has nothing to be set there.
    def __init__(self):
        self.begin()

    def begin(self):
        self.parents = {ROOT: None}
        self.rows = {ROOT: []}
        self.shut = {}
        self.standing = ROOT
        return 0

    def add(self, parent):
        if parent not in self.parents:
            return NOT_THERE
        if len(self.parents) == MOST_NODES:
            return NO_ROOM
        node = self.least_free()
        self.parents[node] = parent
        self.rows[node] = []
        self.rows[parent].append(node)
        return node

    def drop(self, node):
        if node not in self.parents:
            return NOT_THERE
        if node == ROOT:
            return NOT_ALLOWED
        parent = self.parents[node]
        # Asked while the way up is still there.
        if self.stands_within(node):
            self.standing = parent
        self.rows[parent].remove(node)
        gone = self.all_within(node)
        for each in gone:
            self.forget(each)
        return len(gone)

    def fold(self, node, shut):
        if node not in self.parents:
            return NOT_THERE
        if shut > 1:
            return NOT_ALLOWED
        if shut == 0:
            self.shut.pop(node, None)
            return 0
        self.shut[node] = True
        # What is below is not shown any more, and one stands only where something is shown.
        if self.stands_within(node):
            self.standing = node
        return 0

    def least_free(self):
        node = ROOT
        while node in self.parents:
            node = node + 1
        return node

    # Within a node is the node itself and all that is below it.
    def stands_within(self, node):
        here = self.standing
        while here != node and here != ROOT:
            here = self.parents[here]
        return here == node

    def all_within(self, node):
        found = []
        waiting = [node]
        while waiting:
            here = waiting.pop()
            found.append(here)
            waiting.extend(self.rows[here])
        return found

    # The number may be taken again, by a node that has nothing of this one.
    def forget(self, node):
        self.parents.pop(node)
        self.rows.pop(node)
        self.shut.pop(node, None)


# A list, since a call may answer more than one number.
def answer(tree, call, numbers):
    if call == BEGIN:
        return [tree.begin()]
    if call == ADD:
        return [tree.add(numbers[0])]
    if call == DROP:
        return [tree.drop(numbers[0])]
    return [tree.fold(numbers[0], numbers[1])]


def answers(calls):
    tree = Tree()
    answered = []
    here = 0
    while here < len(calls):
        call = calls[here]
        behind = here + 1 + NUMBERS_BEHIND[call]
        numbers = answer(tree, call, calls[here + 1:behind])
        answered.append(len(numbers))
        answered.extend(numbers)
        here = behind
    return answered
