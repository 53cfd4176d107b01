"""Building calls, taking answers apart, and a plain model that tells what is to be answered.

The model keeps no pages: it knows each node's copy, key and what's to stand under it from
the calls alone, so that it goes another way than the program does.
"""

import unittest

from surelyforgotten.vault import answers

NO_KEY = [0] * 32


def key_bytes(seed):
    """32 bytes that differ from seed to seed, without a random source."""
    return [(seed * 97 + place * (seed % 13 + 3) + place * place) % 256 for place in range(32)]


def data_bytes(seed):
    return [(seed * 41 + place * 7 + 5) % 256 for place in range(64)]


def keys_of(seed):
    """The 11 keys of a put, the root's first."""
    return [key_bytes(seed * 11 + place) for place in range(11)]


def clear_call():
    return [0]


def put_call(slot, data, keys):
    script = [byte for key in keys for byte in key]
    return [1, slot, len(data)] + data + [len(script)] + script


def get_call(slot):
    return [2, slot]


def forget_call(slot, keys):
    script = [byte for key in keys for byte in key]
    return [3, slot, len(script)] + script


def register_call(content):
    return [4, len(content)] + content


def page_call(page, content):
    return [5, page, len(content)] + content


def split_answers(given):
    """A list of answers, each without its length ahead."""
    result = []
    place = 0
    while place < len(given):
        length = given[place]
        answer = given[place + 1:place + 1 + length]
        assert len(answer) == length, "an answer is shorter than it tells"
        result.append(answer)
        place += 1 + length
    return result


def split_answer(answer, has_data=False):
    """The number, the data and the list of what was asked."""
    number = answer[0]
    rest = answer[1:]
    data = None
    if has_data and number == 0:
        data, rest = rest[:64], rest[64:]
    count = rest[0]
    asked = []
    place = 1
    lengths = {1: 1, 2: 41, 3: 2, 4: 98, 5: 1, 6: 33}
    while place < len(rest):
        length = lengths[rest[place]]
        asked.append(rest[place:place + length])
        place += length
    assert place == len(rest), "what was asked is cut off"
    assert count == len(asked), "another count than things asked"
    return number, data, asked


def joined(number, data, asked):
    """An answer, as it is to be given."""
    answer = [number] + data + [len(asked)]
    for thing in asked:
        answer += thing
    return answer


def pad_bytes(key):
    return [(byte * 5 + place) % 256 for place, byte in enumerate(key * 3)]


def covered(content, key):
    return [byte ^ pad for byte, pad in zip(content, pad_bytes(key))]


def way_to(slot):
    node = 1024 + slot
    way = []
    while node >= 1:
        way.insert(0, node)
        node //= 2
    return way


class Model:
    """What stands where, told from the calls alone."""

    def __init__(self):
        self.nodes = {}
        self.data = {}

    def content(self, node):
        if node >= 1024:
            return self.data[node - 1024] + [0] * 32
        left = self.nodes.get(2 * node, (0, NO_KEY))
        right = self.nodes.get(2 * node + 1, (0, NO_KEY))
        return left[1] + right[1] + [left[0], right[0]] + [0] * 30

    def asked_on_way(self, slot):
        asked = [[1]]
        for node in way_to(slot)[:10]:
            if node in self.nodes:
                asked += self.asked_to_read(node)
        return asked

    def asked_to_read(self, node):
        copy, key = self.nodes[node]
        return [[3, 2 * node + (copy == 2)], [6] + key]

    def clear(self):
        self.nodes = {}
        self.data = {}
        return joined(0, [], [[2] + [0] * 40])

    def put(self, slot, data, keys):
        if slot > 1023:
            return [-22, 0]
        asked = self.asked_on_way(slot) + [[5]] * 11
        self.data[slot] = data
        asked += self.asked_to_write(way_to(slot), keys)
        return joined(0, [], asked)

    def asked_to_write(self, nodes, keys):
        asked = []
        for node, key in reversed(list(zip(nodes, keys))):
            copy = {0: 1, 1: 2, 2: 1}[self.nodes.get(node, (0, NO_KEY))[0]]
            page = covered(self.content(node), key)
            asked += [[6] + key, [4, 2 * node + (copy == 2)] + page]
            self.nodes[node] = (copy, key)
        if 1 not in self.nodes:
            return asked + [[2] + [0] * 40]
        copy, key = self.nodes[1]
        return asked + [[2, copy, 0, 0, 0] + key + [0, 0, 0, 0]]

    def get(self, slot):
        if slot > 1023:
            return [-22, 0]
        asked = self.asked_on_way(slot)
        if slot not in self.data:
            return joined(-2, [], asked)
        asked += self.asked_to_read(1024 + slot)
        return joined(0, self.data[slot], asked)

    def forget(self, slot, keys):
        if slot > 1023:
            return [-22, 0]
        asked = self.asked_on_way(slot)
        if slot not in self.data:
            return joined(-2, [], asked)
        staying = self.staying(slot)
        asked += [[5]] * len(staying)
        del self.data[slot]
        for node in way_to(slot)[len(staying):]:
            del self.nodes[node]
        asked += self.asked_to_write(staying, keys)
        return joined(0, [], asked)

    def staying(self, slot):
        """The nodes that another slot's way goes by as well."""
        others = {node for other in self.data if other != slot for node in way_to(other)}
        return [node for node in way_to(slot) if node in others]

    def put_count(self, slot):
        """How many keys are asked for; so too in forget_count."""
        return 11 if slot <= 1023 else 0

    def forget_count(self, slot):
        return len(self.staying(slot)) if slot in self.data else 0


class Session:
    """Collects calls and, by the model, what they are to answer."""

    def __init__(self, model=None):
        self.calls = []
        self.wanted = []
        self.model = model or Model()
        self.scripts = 0

    def add(self, call, wanted):
        self.calls += call
        self.wanted.append(wanted)

    def next_keys(self, count):
        """Other ones each time, and none where none is asked for."""
        if count == 0:
            return []
        self.scripts += 1
        return keys_of(self.scripts)[:count]

    def clear(self):
        self.add(clear_call(), self.model.clear())

    def put(self, slot, data):
        keys = self.next_keys(self.model.put_count(slot))
        self.add(put_call(slot, data, keys), self.model.put(slot, data, keys))

    def get(self, slot):
        self.add(get_call(slot), self.model.get(slot))

    def forget(self, slot):
        keys = self.next_keys(self.model.forget_count(slot))
        self.add(forget_call(slot, keys), self.model.forget(slot, keys))

    def lay_register(self, content):
        """The model must keep the register and pages, as Medium does; so too in lay_page."""
        self.model.register = list(content)
        self.add(register_call(content), [0])

    def lay_page(self, page, content):
        self.model.pages[page] = list(content)
        self.add(page_call(page, content), [0])


class VaultCase(unittest.TestCase):
    """What the tests have in common."""

    def check(self, session):
        """The answers one by one, so that a failure tells the call."""
        given = split_answers(answers(session.calls))
        self.assertEqual(len(given), len(session.wanted))
        for place, (answer, wanted) in enumerate(zip(given, session.wanted)):
            self.assertEqual(answer, wanted, "call %d" % place)

    def asked(self, calls, place, has_data=False):
        return split_answer(split_answers(answers(calls))[place], has_data)


def counting_pages(register, pages):
    """Each page whose copy counts, by going down from the register; and the slots' data."""
    found = {}
    data = {}
    links = [(1, register[0], register[4:36])]
    while links:
        node, copy, key = links.pop()
        if copy == 0:
            continue
        page = 2 * node + copy - 1
        found[page] = node
        content = covered(pages.get(page, [0] * 96), key)
        if node >= 1024:
            data[node - 1024] = content[:64]
        else:
            links.append((2 * node, content[64], content[:32]))
            links.append((2 * node + 1, content[65], content[32:64]))
    return found, data
