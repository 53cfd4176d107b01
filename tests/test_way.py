"""The way that is gone (-71), for get, put and forget, by bytes laid there with register and page."""

import unittest

from surelyforgotten.vault import answers
from vault_model import (VaultCase, clear_call, covered, data_bytes, forget_call, get_call, key_bytes,
                         keys_of, page_call, put_call, register_call, split_answer, split_answers)

KEYS = keys_of(1)


def plain_on_way(depth):
    """What put of slot 0 as the first one has written there, uncovered."""
    return KEYS[depth + 1] + [0] * 32 + [1, 0] + [0] * 30


def spoiled(depth, changes):
    """The calls that put slot 0 and then change bytes under the node at that depth."""
    plain = plain_on_way(depth)
    for place, value in changes:
        plain[place] = value
    page = page_call(2 ** (depth + 1), covered(plain, KEYS[depth]))
    return put_call(0, data_bytes(1), KEYS) + page


def read_way(depths):
    asked = [[1]]
    for depth in range(depths):
        asked += [[3, 2 ** (depth + 1)], [6] + KEYS[depth]]
    return asked


def answered_behind(calls, call, has_data=False):
    """What's answered to one call more behind the calls."""
    return split_answer(split_answers(answers(calls + call))[-1], has_data)


class GoneTest(VaultCase):
    def all_three(self, calls, slot):
        """get, put and forget are refused alike, one behind another: they change nothing."""
        refused = get_call(slot) + put_call(slot, data_bytes(2), []) + forget_call(slot, [])
        given = split_answers(answers(calls + refused + get_call(slot)))[-4:]
        for answer in given:
            self.assertEqual(answer, given[0])
        return split_answer(given[0])

    def test_register_tells_a_copy_above_2(self):
        for copy in [3, 4, 128, 255]:
            calls = register_call([copy, 0, 0, 0] + key_bytes(1) + [0] * 4)
            self.assertEqual(self.all_three(calls, 5), (-71, None, [[1]]))

    def test_slot_is_looked_at_first(self):
        calls = register_call([3] + [0] * 39)
        self.assertEqual(self.all_three(calls, 1024), (-22, None, []))

    def test_a_child_on_the_way_or_beside_it(self):
        for depth in range(10):
            for place in [64, 65]:
                for copy in [3, 255]:
                    calls = spoiled(depth, [(place, copy)])
                    self.assertEqual(self.all_three(calls, 0), (-71, None, read_way(depth + 1)))

    def test_gone_ahead_of_not_there(self):
        """The child on the way isn't there, and the one beside it is told wrongly."""
        for depth in range(10):
            calls = spoiled(depth, [(64, 0), (65, 3)])
            self.assertEqual(self.all_three(calls, 0), (-71, None, read_way(depth + 1)))

    def test_a_page_of_garbage(self):
        """All bytes of a page on the way are others than those written."""
        plain = plain_on_way(3)
        calls = spoiled(3, [(place, 255 - plain[place]) for place in range(96)])
        self.assertEqual(self.all_three(calls, 0), (-71, None, read_way(4)))

    def test_a_page_cut_off(self):
        """Its first part is what stood there, all 0s: uncovered, that's the pad."""
        page = covered(plain_on_way(2), KEYS[2])
        cut = page[:64] + [0] * 32
        calls = put_call(0, data_bytes(1), KEYS) + page_call(8, cut)
        copies = covered(cut, KEYS[2])[64:66]
        self.assertGreater(max(copies), 2)
        self.assertEqual(self.all_three(calls, 0), (-71, None, read_way(3)))

    def test_a_wrong_copy_off_the_way_is_not_met(self):
        calls = spoiled(1, [(64, 3)])
        for call in [get_call(1023), forget_call(1023, [])]:
            self.assertEqual(answered_behind(calls, call), (-2, None, read_way(1)))
        self.assertEqual(answered_behind(calls, put_call(1023, data_bytes(2), keys_of(2)))[0], 0)

    def test_a_leaf_tells_no_copies(self):
        """Its bytes behind the data are no copies, however large."""
        leaf = data_bytes(4) + [255] * 32
        calls = put_call(0, data_bytes(1), KEYS) + page_call(2048, covered(leaf, KEYS[10]))
        self.assertEqual(answered_behind(calls, get_call(0), True)[:2], (0, data_bytes(4)))
        self.assertEqual(answered_behind(calls, put_call(0, data_bytes(2), keys_of(2)))[0], 0)
        self.assertEqual(answered_behind(calls, forget_call(0, []))[0], 0)

    def test_copy_2_is_none(self):
        calls = spoiled(9, [(64, 2)])
        number, data, asked = answered_behind(calls, get_call(0), True)
        self.assertEqual((number, data), (0, covered([0] * 96, KEYS[10])[:64]))
        self.assertEqual(asked, read_way(10) + [[3, 2049], [6] + KEYS[10]])
        self.assertEqual(answered_behind(calls, forget_call(0, [])),
                         (0, None, read_way(10) + [[2] + [0] * 40]))

    def test_clear_does_not_ask(self):
        calls = register_call([3] + [7] * 39) + clear_call()
        given = split_answers(answers(calls + get_call(0)))
        self.assertEqual(given[1:], [[0, 1, 2] + [0] * 40, [-2, 1, 1]])


if __name__ == "__main__":
    unittest.main()
