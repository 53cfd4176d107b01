"""A model that keeps the register and the pages, for calls that lay bytes there.

It goes down and comes up again by recursion, another way than the program does.
"""

from vault_model import NO_KEY, covered, joined

NO_PAGE = [0] * 96


class Medium:
    def __init__(self):
        self.register = [0] * 40
        self.pages = {}

    def root(self):
        return self.register[0], self.register[4:36]

    def plain(self, node, copy, key):
        return covered(self.pages.get(2 * node + copy - 1, NO_PAGE), key)

    def go(self, slot):
        """A number, what was asked, and the copies beside the way, from the root's child on."""
        if slot > 1023:
            return -22, [], []
        asked = [[1]]
        beside = []
        copy, key = self.root()
        number = self.go_below(1, copy, key, slot, asked, beside)
        return number, asked, beside

    def go_below(self, node, copy, key, slot, asked, beside):
        if copy > 2:
            return -71
        if copy == 0:
            return -2
        if node >= 1024:
            return 0
        asked += [[3, 2 * node + copy - 1], [6] + key]
        plain = self.plain(node, copy, key)
        if plain[64] > 2 or plain[65] > 2:
            return -71
        child = next_node(node, slot)
        beside.append(plain[64 + (1 - child % 2)])
        copy, key = child_link(plain, child % 2)
        return self.go_below(child, copy, key, slot, asked, beside)

    def link_of(self, node):
        """The copy and key of a node that there is, and of each above it, as the bytes tell."""
        if node == 1:
            return self.root()
        copy, key = self.link_of(node // 2)
        return child_link(self.plain(node // 2, copy, key), node % 2)

    def clear(self):
        self.register = [0] * 40
        return joined(0, [], [[2] + self.register])

    def get(self, slot):
        number, asked, beside = self.go(slot)
        if number != 0:
            return joined(number, [], asked)
        copy, key = self.link_of(1024 + slot)
        asked += [[3, 2 * (1024 + slot) + copy - 1], [6] + key]
        return joined(0, self.plain(1024 + slot, copy, key)[:64], asked)

    def put_count(self, slot):
        return 11 if self.go(slot)[0] in (0, -2) else 0

    def put(self, slot, data, keys):
        number, asked, beside = self.go(slot)
        if number not in (0, -2):
            return joined(number, [], asked)
        return self.written(slot, keys, data + [0] * 32, asked)

    def forget_count(self, slot):
        number, asked, beside = self.go(slot)
        if number != 0:
            return 0
        return max([0] + [place + 1 for place, copy in enumerate(beside) if copy > 0])

    def forget(self, slot, keys):
        number, asked, beside = self.go(slot)
        if number != 0:
            return joined(number, [], asked)
        return self.written(slot, keys, None, asked)

    def written(self, slot, keys, leaf, asked):
        asked += [[5]] * len(keys)
        copy, key = self.root()
        copy, key = self.write_below(1, copy, key, slot, keys, leaf, asked)
        self.register = [copy, 0, 0, 0] + key + [0, 0, 0, 0]
        return joined(0, [], asked + [[2] + self.register])

    def write_below(self, node, copy, key, slot, keys, leaf, asked):
        """Writes the nodes that have keys, the lower ones first; gives back this one's link."""
        if not keys:
            return 0, NO_KEY
        if node >= 1024:
            plain = leaf
        else:
            plain = self.plain(node, copy, key)[:66] + [0] * 30 if copy else list(NO_PAGE)
            child = next_node(node, slot)
            below = child_link(plain, child % 2)
            below = self.write_below(child, below[0], below[1], slot, keys[1:], leaf, asked)
            plain[64 + child % 2] = below[0]
            plain[32 * (child % 2):32 * (child % 2) + 32] = below[1]
        copy = {0: 1, 1: 2, 2: 1}[copy]
        page = 2 * node + copy - 1
        self.pages[page] = covered(plain, keys[0])
        asked += [[6] + keys[0], [4, page] + self.pages[page]]
        return copy, keys[0]


def next_node(node, slot):
    """The child of that node on the way to the slot."""
    leaf = 1024 + slot
    while leaf // 2 != node:
        leaf //= 2
    return leaf


def child_link(plain, side):
    return plain[64 + side], plain[32 * side:32 * side + 32]
