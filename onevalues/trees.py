"""Values as trees of nodes, which can be changed again and again before their bytes are made."""

from onevalues.kinds import LIST, RECORD
from onevalues.parts import all_bytes
from onevalues.rows import counted_row, name_row


# Of an atom the row is all its bytes. The length is that of its bytes, its name left out; the name is
# empty, if it is no record's member.
class Node:
    def __init__(self, row, part):
        self.kind = part.kind
        self.name = part.name
        self.row = [] if part.kind in (LIST, RECORD) else all_bytes(row, part)
        self.length = part.end - part.place
        self.members = []


# The value of a part, by itself: it has no name yet where it will stand.
def make_tree(row, part):
    top = Node(row, part)
    top.name = []
    parts = [part]
    nodes = [top]
    while nodes:
        node = nodes.pop()
        members = parts.pop().members
        node.members = [Node(row, member) for member in members]
        parts.extend(members)
        nodes.extend(node.members)
    return top


# How many bytes a member takes within its holder.
def member_length(node):
    return len(name_row(node.name)) + node.length


def tree_row(top):
    made = []
    left = [top]
    while left:
        node = left.pop()
        made.extend(name_row(node.name))
        if node.kind in (LIST, RECORD):
            made.extend(counted_row(node.kind, len(node.members), []))
            left.extend(list(reversed(node.members)))
        else:
            made.extend(node.row)
    return made
