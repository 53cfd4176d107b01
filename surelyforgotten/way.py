"""The way from the root down to a slot's leaf, and the copies that lie on it."""

from surelyforgotten.nodes import Link, branch_content, children_in, no_link, other_copy
from surelyforgotten.nodes import page_of, root_in, xor_bytes

LAST_SLOT = 1023
FIRST_LEAF = 1024
# The leaf lies that many steps below the root.
LEAF_DEPTH = 10


class Way:
    """What going the way found out.

    nodes: the 11 nodes from the root to the leaf; links: a link to each of them;
    branches: both children's links of each but the leaf; refusal: 0, or why it ended.
    """

    def __init__(self, slot):
        leaf = FIRST_LEAF + slot
        self.nodes = [leaf >> (LEAF_DEPTH - depth) for depth in range(LEAF_DEPTH + 1)]
        self.links = []
        self.branches = []
        self.refusal = 0

    def side_below(self, depth):
        """0 if the way goes on to the left child, 1 if to the right one."""
        return self.nodes[depth + 1] % 2

    def child_beside(self, depth):
        """The link to the child that the way doesn't go on to."""
        return self.branches[depth][1 - self.side_below(depth)]


def go_way(outside, slot):
    """Goes the way; what isn't there is linked to by copy 0, and nothing is asked of it."""
    way = Way(slot)
    if slot > LAST_SLOT:
        way.refusal = -22
        return way
    root = root_in(outside.ask_register())
    if root.is_garbage():
        way.refusal = -71
        return way
    way.links.append(root)
    for depth in range(LEAF_DEPTH):
        children = read_children(outside, way.nodes[depth], way.links[depth])
        # The child beside the way counts as well: put would hand its link on.
        if children[0].is_garbage() or children[1].is_garbage():
            way.refusal = -71
            return way
        way.branches.append(children)
        way.links.append(children[way.side_below(depth)])
    return way


def read_children(outside, node, link):
    if not link.is_there():
        return [no_link(), no_link()]
    return children_in(read_copy(outside, node, link))


def read_copy(outside, node, link):
    """What stands under the node: its page is read ahead of asking the pad."""
    covered = outside.read_page(page_of(node, link.copy_number))
    return xor_bytes(covered, outside.ask_pad(link.key))


def write_copy(outside, node, old_link, key, content):
    """Writes the copy that doesn't count yet; gives back the link to it."""
    pad = outside.ask_pad(key)
    link = Link(other_copy(old_link.copy_number), key)
    outside.write_page(page_of(node, link.copy_number), xor_bytes(content, pad))
    return link


def count_staying(way):
    """How many branches, from the root on, are still needed when the leaf is forgotten."""
    for depth in range(LEAF_DEPTH - 1, -1, -1):
        if way.child_beside(depth).is_there():
            return depth + 1
    return 0


def write_upwards(outside, way, keys, child):
    """Writes the branches that have a key in keys, the lowest first; gives back the root's link.

    child is the new link of the lowest one's child on the way, or, without keys, the root's.
    """
    link = child
    for depth in range(len(keys) - 1, -1, -1):
        children = list(way.branches[depth])
        children[way.side_below(depth)] = link
        content = branch_content(children)
        link = write_copy(outside, way.nodes[depth], way.links[depth], keys[depth], content)
    return link
