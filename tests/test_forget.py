"""forget: the promise 4 and its edges; its -71 is in test_way.py."""

import unittest

from surelyforgotten.vault import answers
from vault_model import (Session, VaultCase, clear_call, covered, data_bytes, forget_call, get_call,
                         keys_of, put_call, split_answers, way_to)

LARGEST = 2 ** 32 - 1
NO_KEY = [0] * 32


def read_way(keys, depths, copy=1):
    """What going the way to slot 0 asks, down to a depth, with the keys of one put."""
    asked = [[1]]
    for depth in range(depths):
        asked += [[3, 2 ** (depth + 1) + copy - 1], [6] + keys[depth]]
    return asked


def uncovered(asked, page, key):
    """What stands under the page that was written."""
    for thing in asked:
        if thing[:2] == [4, page]:
            return covered(thing[2:], key)
    raise AssertionError("page %d was not written" % page)


class NoneStaysTest(VaultCase):
    def test_the_only_slot(self):
        keys = keys_of(1)
        calls = put_call(0, data_bytes(1), keys) + forget_call(0, []) + get_call(0)
        number, nothing, asked = self.asked(calls, 1)
        self.assertEqual(number, 0)
        self.assertEqual(asked, read_way(keys, 10) + [[2] + [0] * 40])
        self.assertEqual(split_answers(answers(calls))[2], [-2, 1, 1])

    def test_the_only_slot_at_copy_2(self):
        keys = keys_of(2)
        calls = put_call(0, data_bytes(1), keys_of(1)) + put_call(0, data_bytes(2), keys)
        calls += forget_call(0, [])
        number, nothing, asked = self.asked(calls, 2)
        self.assertEqual((number, asked), (0, read_way(keys, 10, 2) + [[2] + [0] * 40]))

    def test_slots_of_every_kind(self):
        for slot in [0, 1, 2, 5, 511, 512, 700, 1022, 1023]:
            session = Session()
            session.put(slot, data_bytes(slot))
            session.forget(slot)
            session.get(slot)
            session.forget(slot)
            session.put(slot, data_bytes(slot + 1))
            session.get(slot)
            self.check(session)

    def test_put_begins_at_copy_1_again(self):
        calls = []
        for turn in range(2):
            calls += put_call(0, data_bytes(turn), keys_of(turn))
        calls += forget_call(0, []) + put_call(0, data_bytes(2), keys_of(2))
        number, nothing, asked = self.asked(calls, 3)
        written = [thing[1] for thing in asked if thing[0] == 4]
        self.assertEqual(written, [2 * node for node in reversed(way_to(0))])
        self.assertEqual(asked[0], [1])
        self.assertEqual(asked[1], [5])


class SomeStayTest(VaultCase):
    """Number by number, with nothing from the model's Session."""

    def test_all_that_is_asked(self):
        """Slots 0 and 1 have all branches in common, so that all stay."""
        second = keys_of(2)
        new = keys_of(3)[:10]
        calls = put_call(0, data_bytes(1), keys_of(1)) + put_call(1, data_bytes(2), second)
        calls += forget_call(0, new) + get_call(0) + get_call(1)
        number, nothing, asked = self.asked(calls, 2)
        self.assertEqual(number, 0)
        self.assertEqual(len(asked), 21 + 10 + 20 + 1)
        self.assertEqual(asked[:21], read_way(second, 10, 2))
        self.assertEqual(asked[21:31], [[5]] * 10)
        self.assertEqual(asked[31:51:2], [[6] + key for key in reversed(new)])
        self.assertEqual([thing[:2] for thing in asked[32:52:2]],
                         [[4, page] for page in [1024, 512, 256, 128, 64, 32, 16, 8, 4, 2]])
        plain = NO_KEY + second[10] + [0, 1] + [0] * 30
        self.assertEqual(uncovered(asked, 1024, new[9]), plain)
        for depth in range(9):
            plain = new[depth + 1] + NO_KEY + [1, 0] + [0] * 30
            self.assertEqual(uncovered(asked, 2 ** (depth + 1), new[depth]), plain)
        self.assertEqual(asked[51], [2, 1, 0, 0, 0] + new[0] + [0, 0, 0, 0])
        self.assertEqual(self.asked(calls, 3)[0::2], (-2, read_way(new, 10)))
        self.assertEqual(self.asked(calls, 4, True)[:2], (0, data_bytes(2)))

    def test_whole_answer_with_the_root_alone_staying(self):
        second = keys_of(2)
        new = keys_of(3)[:1]
        calls = put_call(1023, data_bytes(1), keys_of(1)) + put_call(0, data_bytes(2), second)
        calls += forget_call(0, new)
        wanted = [0, 1 + 20 + 1 + 2 + 1]
        for thing in read_way(second, 1, 2):
            wanted += thing
        # Node 1 is at copy 2 by the second put, the nodes below it at copy 1.
        for depth in range(1, 10):
            wanted += [3, 2 ** (depth + 1), 6] + second[depth]
        plain = NO_KEY + keys_of(1)[1] + [0, 1] + [0] * 30
        wanted += [5, 6] + new[0] + [4, 2] + covered(plain, new[0])
        wanted += [2, 1, 0, 0, 0] + new[0] + [0, 0, 0, 0]
        self.assertEqual(split_answers(answers(calls))[2], wanted)

    def test_lowest_one_from_the_root_to_the_leaf(self):
        """Each depth of the lowest one that stays, with either side forgotten."""
        for depth in range(10):
            other = 1 << (9 - depth)
            for kept, gone in [(0, other), (other, 0)]:
                first = keys_of(1)
                new = keys_of(3)[:depth + 1]
                calls = put_call(kept, data_bytes(1), first) + put_call(gone, data_bytes(2), keys_of(2))
                calls += forget_call(gone, new) + get_call(gone) + get_call(kept)
                number, nothing, asked = self.asked(calls, 2)
                self.assertEqual(number, 0)
                self.assertEqual([thing[0] for thing in asked],
                                 [1] + [3, 6] * 10 + [5] * (depth + 1) + [6, 4] * (depth + 1) + [2])
                stays = [(first[depth + 1], 1), (NO_KEY, 0)]
                if gone == 0:
                    stays.reverse()
                plain = stays[0][0] + stays[1][0] + [stays[0][1], stays[1][1]] + [0] * 30
                self.assertEqual(uncovered(asked, 2 ** (depth + 1), new[depth]), plain)
                self.assertEqual(self.asked(calls, 3)[0], -2)
                self.assertEqual(len(self.asked(calls, 3)[2]), 1 + 2 * (depth + 1))
                self.assertEqual(self.asked(calls, 4, True)[:2], (0, data_bytes(1)))

    def test_those_above_the_lowest_one_stay_too(self):
        """They have no other child of their own, and hand on the way's new copy and key."""
        new = keys_of(4)[:9]
        calls = put_call(0, data_bytes(1), keys_of(1)) + put_call(2, data_bytes(2), keys_of(2))
        calls += forget_call(0, new)
        asked = self.asked(calls, 2)[2]
        self.assertEqual([thing[1] for thing in asked if thing[0] == 4],
                         [2 ** (depth + 1) for depth in range(8, -1, -1)])
        self.assertEqual(uncovered(asked, 512, new[8]),
                         NO_KEY + keys_of(2)[9] + [0, 1] + [0] * 30)
        self.assertEqual(uncovered(asked, 256, new[7]), new[8] + NO_KEY + [1, 0] + [0] * 30)

    def test_lowest_of_several_other_children(self):
        """Others at the root, in the middle and near the leaf: the lowest one tells."""
        new = keys_of(5)[:8]
        calls = []
        for turn, slot in enumerate([512, 32, 4, 0]):
            calls += put_call(slot, data_bytes(turn), keys_of(turn))
        calls += forget_call(0, new)
        asked = self.asked(calls, 4)[2]
        self.assertEqual(asked.count([5]), 8)
        lowest = uncovered(asked, 256, new[7])
        self.assertEqual(lowest, NO_KEY + keys_of(2)[8] + [0, 1] + [0] * 30)
        middle = uncovered(asked, 33, new[4])
        self.assertEqual(middle, new[5] + keys_of(1)[5] + [1, 1] + [0] * 30)
        # Written five times, its left child four times, its right one once.
        root = uncovered(asked, 2, new[0])
        self.assertEqual(root, new[1] + keys_of(0)[1] + [2, 1] + [0] * 30)
        self.assertEqual(asked[-1], [2, 1, 0, 0, 0] + new[0] + [0, 0, 0, 0])

    def test_other_child_at_copy_2(self):
        for kept, gone in [(20, 21), (21, 20)]:
            new = keys_of(4)[:10]
            calls = put_call(kept, data_bytes(1), keys_of(1)) + put_call(kept, data_bytes(2), keys_of(2))
            calls += put_call(gone, data_bytes(3), keys_of(3)) + forget_call(gone, new) + get_call(kept)
            asked = self.asked(calls, 3)[2]
            page = [thing[1] for thing in asked if thing[0] == 4][0]
            stays = [(keys_of(2)[10], 2), (NO_KEY, 0)]
            if kept % 2 == 1:
                stays.reverse()
            self.assertEqual(uncovered(asked, page, new[9]),
                             stays[0][0] + stays[1][0] + [stays[0][1], stays[1][1]] + [0] * 30)
            self.assertEqual(self.asked(calls, 4, True)[:2], (0, data_bytes(2)))

    def test_the_leaf_is_not_read(self):
        for others in [[], [1], [1023], [2, 512]]:
            session = Session()
            session.put(0, data_bytes(1))
            for slot in others:
                session.put(slot, data_bytes(slot))
            session.forget(0)
            asked = self.asked(session.calls, len(others) + 1)[2]
            read = [thing[1] for thing in asked if thing[0] == 3]
            self.assertEqual(len(read), 10)
            self.assertLess(max(read), 2048)
            self.check(session)


class RefusalTest(VaultCase):
    def test_slots_above_1023(self):
        for slot in [1024, 1025, 2047, 4096, 65536, 2 ** 31, LARGEST]:
            self.assertEqual(answers(forget_call(slot, [])), [2, -22, 0])

    def test_slot_1023_is_none_of_them(self):
        session = Session()
        session.forget(1023)
        session.put(1023, data_bytes(1))
        session.forget(1024)
        session.get(1023)
        session.forget(1023)
        session.get(1023)
        self.check(session)

    def test_root_is_not_there(self):
        for slot in [0, 17, 1023]:
            self.assertEqual(answers(forget_call(slot, [])), [3, -2, 1, 1])
        calls = put_call(0, data_bytes(1), keys_of(1)) + clear_call() + forget_call(0, [])
        self.assertEqual(split_answers(answers(calls))[2], [-2, 1, 1])

    def test_where_the_way_ends(self):
        """From the root's child in the middle to the leaf alone missing."""
        keys = keys_of(2)
        for depth in range(10):
            other = 1 << (9 - depth)
            calls = put_call(0, data_bytes(1), keys) + forget_call(other, []) + get_call(0)
            number, nothing, asked = self.asked(calls, 1)
            self.assertEqual((number, asked), (-2, read_way(keys, depth + 1)))
            self.assertEqual(self.asked(calls, 2, True)[:2], (0, data_bytes(1)))

    def test_refusals_change_nothing(self):
        session = Session()
        session.put(1023, data_bytes(1))
        for slot in [0, 1022, 1024, LARGEST]:
            session.forget(slot)
            session.get(1023)
        session.put(1022, data_bytes(2))
        session.forget(1021)
        session.forget(1023)
        session.forget(1023)
        session.get(1022)
        self.check(session)


class OrdinaryTest(VaultCase):
    def test_all_of_many_forgotten_one_by_one(self):
        slots = [0, 1, 2, 3, 7, 512, 513, 1020, 1022, 1023]
        for order in [slots, slots[::-1], slots[::2] + slots[1::2]]:
            session = Session()
            for slot in slots:
                session.put(slot, data_bytes(slot))
            for slot in order:
                session.forget(slot)
                for other in slots:
                    session.get(other)
            self.check(session)

    def test_put_behind_forget(self):
        """Of what stayed the other copy is written, of what is new again copy 1."""
        session = Session()
        session.put(0, data_bytes(1))
        session.put(3, data_bytes(2))
        session.put(0, data_bytes(3))
        session.forget(0)
        session.put(0, data_bytes(4))
        session.put(1, data_bytes(5))
        for slot in range(4):
            session.get(slot)
        self.check(session)

    def test_the_same_keys_again(self):
        keys = keys_of(1)
        calls = put_call(2, data_bytes(1), keys) + put_call(3, data_bytes(2), keys)
        calls += forget_call(2, keys[:10]) + get_call(2) + get_call(3)
        self.assertEqual(self.asked(calls, 3)[0], -2)
        self.assertEqual(self.asked(calls, 4, True)[:2], (0, data_bytes(2)))


if __name__ == "__main__":
    unittest.main()
