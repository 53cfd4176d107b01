"""How nodes, links and pads look as bytes, and on which page a node's copy lies."""

KEY_SIZE = 32
PAGE_SIZE = 96
DATA_SIZE = 64
REGISTER_SIZE = 40

# Where the two children's copies are told, behind their keys.
LEFT_COPY_PLACE = 64
RIGHT_COPY_PLACE = 65

# Where the root's key begins in the register, behind its copy and 3 bytes of 0.
ROOT_KEY_PLACE = 4


class Link:
    """Which copy of a node counts and the key it stands under; copy 0 if there's no such node."""

    def __init__(self, copy_number, key):
        self.copy_number = copy_number
        self.key = key

    def is_there(self):
        return self.copy_number != 0

    def is_garbage(self):
        return self.copy_number > 2


def no_link():
    return Link(0, [0] * KEY_SIZE)


def other_copy(copy_number):
    """The copy that a node is written as next: 1, too, if there was none."""
    if copy_number == 1:
        return 2
    return 1


def page_of(node, copy_number):
    return 2 * node + copy_number - 1


def pad_of(key):
    return [(key[i % KEY_SIZE] * 5 + i) % 256 for i in range(PAGE_SIZE)]


def xor_bytes(content, pad):
    """The same step covers what's written and uncovers what's read."""
    return [content[i] ^ pad[i] for i in range(PAGE_SIZE)]


def leaf_content(data):
    return data + [0] * (PAGE_SIZE - DATA_SIZE)


def branch_content(children):
    left = children[0]
    right = children[1]
    told = left.key + right.key + [left.copy_number, right.copy_number]
    return told + [0] * (PAGE_SIZE - len(told))


def children_in(content):
    """The links of a branch's left and right child, whatever they tell."""
    left = Link(content[LEFT_COPY_PLACE], content[0:KEY_SIZE])
    right = Link(content[RIGHT_COPY_PLACE], content[KEY_SIZE:2 * KEY_SIZE])
    return [left, right]


def register_content(root):
    told = [root.copy_number, 0, 0, 0] + root.key
    return told + [0] * (REGISTER_SIZE - len(told))


def root_in(content):
    return Link(content[0], content[ROOT_KEY_PLACE:ROOT_KEY_PLACE + KEY_SIZE])
