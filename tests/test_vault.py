"""clear, get and put: the promises 1 to 3 and their edges."""

import unittest

from surelyforgotten.vault import answers
from vault_model import (Session, VaultCase, clear_call, data_bytes, get_call, key_bytes, keys_of,
                         put_call, split_answers, way_to)

LARGEST = 2 ** 32 - 1


class ClearTest(VaultCase):
    def test_clear_of_a_new_object(self):
        self.assertEqual(answers([0]), [43, 0, 1, 2] + [0] * 40)

    def test_clear_then_get(self):
        calls = put_call(3, data_bytes(1), keys_of(1)) + clear_call() + get_call(3)
        given = split_answers(answers(calls))
        self.assertEqual(given[1], [0, 1, 2] + [0] * 40)
        self.assertEqual(given[2], [-2, 1, 1])

    def test_put_after_clear_begins_at_copy_1(self):
        session = Session()
        session.put(3, data_bytes(1))
        session.clear()
        session.get(3)
        session.put(3, data_bytes(2))
        session.get(3)
        session.clear()
        session.clear()
        session.get(3)
        self.check(session)


class FirstPutTest(VaultCase):
    """Number by number, with nothing from the model."""

    def test_all_that_is_asked(self):
        keys = keys_of(4)
        data = data_bytes(9)
        number, nothing, asked = self.asked(put_call(0, data, keys), 0)
        self.assertEqual(number, 0)
        self.assertEqual(len(asked), 1 + 11 + 22 + 1)
        self.assertEqual(asked[0], [1])
        self.assertEqual(asked[1:12], [[5]] * 11)
        self.assertEqual(asked[12], [6] + keys[10])
        pad = [(keys[10][i % 32] * 5 + i) % 256 for i in range(96)]
        leaf = [data[i] ^ pad[i] for i in range(64)] + pad[64:]
        self.assertEqual(asked[13], [4, 2048] + leaf)
        self.assertEqual([thing[1] for thing in asked[13:34:2]],
                         [2048, 1024, 512, 256, 128, 64, 32, 16, 8, 4, 2])
        self.assertEqual(asked[12:34:2], [[6] + key for key in reversed(keys)])
        pad = [(keys[0][i % 32] * 5 + i) % 256 for i in range(96)]
        plain = keys[1] + [0] * 32 + [1, 0] + [0] * 30
        self.assertEqual(asked[33], [4, 2] + [plain[i] ^ pad[i] for i in range(96)])
        self.assertEqual(asked[34], [2, 1, 0, 0, 0] + keys[0] + [0, 0, 0, 0])

    def test_keys_and_data_of_0(self):
        given = answers(put_call(0, [0] * 64, [[0] * 32] * 11))
        root = list(range(96))
        root[64] = 65
        wanted = [0, 35, 1] + [5] * 11 + [6] + [0] * 32 + [4, 2048] + list(range(96))
        for page in [1024, 512, 256, 128, 64, 32, 16, 8, 4, 2]:
            wanted += [6] + [0] * 32 + [4, page] + root
        wanted += [2, 1] + [0] * 39
        self.assertEqual(given, [len(wanted)] + wanted)

    def test_keys_and_data_of_255(self):
        asked = self.asked(put_call(1023, [255] * 64, [[255] * 32] * 11), 0)[2]
        pad = [251, 252, 253, 254, 255] + list(range(91))
        self.assertEqual(asked[13], [4, 4094] + [255 - byte for byte in pad[:64]] + pad[64:])
        plain = [0] * 32 + [255] * 32 + [0, 1] + [0] * 30
        self.assertEqual(asked[15], [4, 2046] + [plain[i] ^ pad[i] for i in range(96)])

    def test_get_of_it(self):
        keys = keys_of(4)
        data = data_bytes(9)
        calls = put_call(0, data, keys) + get_call(0)
        number, got, asked = self.asked(calls, 1, True)
        self.assertEqual((number, got), (0, data))
        wanted = [[1]]
        for depth in range(11):
            wanted += [[3, 2 ** (depth + 1)], [6] + keys[depth]]
        self.assertEqual(asked, wanted)


class OrdinaryTest(VaultCase):
    def test_put_and_get_in_slots_of_every_kind(self):
        for slot in [0, 1, 2, 5, 511, 512, 700, 1022, 1023]:
            session = Session()
            session.put(slot, data_bytes(slot))
            session.get(slot)
            self.check(session)

    def test_copies_1_then_2_then_1(self):
        session = Session()
        calls = []
        for turn in range(4):
            session.put(6, data_bytes(turn))
            session.get(6)
            calls += put_call(6, data_bytes(turn), keys_of(turn))
        self.check(session)
        for turn, copy in enumerate([1, 2, 1, 2]):
            asked = self.asked(calls, turn)[2]
            written = [thing[1] for thing in asked if thing[0] == 4]
            self.assertEqual(written, [2 * node + copy - 1 for node in reversed(way_to(6))])
            self.assertEqual(asked[-1], [2, copy, 0, 0, 0] + keys_of(turn)[0] + [0] * 4)

    def test_register_at_copy_2(self):
        session = Session()
        session.put(9, data_bytes(1))
        session.put(9, data_bytes(2))
        session.get(9)
        session.get(8)
        session.get(1000)
        session.put(1000, data_bytes(3))
        session.get(1000)
        session.get(9)
        self.check(session)

    def test_part_of_the_way_shared(self):
        session = Session()
        for slot in [100, 101, 103, 96, 127, 100, 96]:
            session.put(slot, data_bytes(slot + len(session.calls)))
            for asked_slot in [96, 100, 101, 102, 103, 127]:
                session.get(asked_slot)
        self.check(session)

    def test_root_alone_shared(self):
        session = Session()
        for slot in [0, 1023, 0, 0, 1023, 511, 512]:
            session.put(slot, data_bytes(slot + len(session.calls)))
            for asked_slot in [0, 511, 512, 1023]:
                session.get(asked_slot)
        self.check(session)

    def test_other_child_is_kept(self):
        """Both ways round: its copy, not always 1, and its key."""
        for first, second in [(20, 21), (21, 20)]:
            keys = [keys_of(turn) for turn in range(4)]
            calls = put_call(first, data_bytes(1), keys[1]) + put_call(first, data_bytes(2), keys[2])
            calls += put_call(second, data_bytes(3), keys[3])
            asked = self.asked(calls, 2)[2]
            page = [thing[2:] for thing in asked if thing[0] == 4][1]
            pad = [(keys[3][9][i % 32] * 5 + i) % 256 for i in range(96)]
            plain = [page[i] ^ pad[i] for i in range(96)]
            sides = {first % 2: (keys[2][10], 2), second % 2: (keys[3][10], 1)}
            self.assertEqual(plain[:64], sides[0][0] + sides[1][0])
            self.assertEqual(plain[64:], [sides[0][1], sides[1][1]] + [0] * 30)

    def test_put_of_what_is_there_already(self):
        session = Session()
        for turn in range(3):
            session.put(77, data_bytes(5))
            session.get(77)
        self.check(session)

    def test_the_same_keys_again(self):
        calls = put_call(2, data_bytes(1), keys_of(1)) + put_call(2, data_bytes(1), keys_of(1))
        calls += get_call(2)
        self.assertEqual(self.asked(calls, 2, True)[:2], (0, data_bytes(1)))

    def test_one_key_for_all(self):
        session_keys = [key_bytes(5)] * 11
        calls = put_call(2, data_bytes(1), session_keys) + get_call(2)
        self.assertEqual(self.asked(calls, 1, True)[:2], (0, data_bytes(1)))


class RefusalTest(VaultCase):
    def test_slots_above_1023(self):
        for slot in [1024, 1025, 2047, 4096, 65536, 2 ** 31, LARGEST]:
            self.assertEqual(answers(get_call(slot)), [2, -22, 0])
            self.assertEqual(answers(put_call(slot, data_bytes(1), [])), [2, -22, 0])

    def test_slot_1023_is_none_of_them(self):
        session = Session()
        session.get(1023)
        session.put(1023, data_bytes(1))
        session.put(1024, data_bytes(2))
        session.get(1023)
        session.get(1024)
        self.check(session)

    def test_refusals_change_nothing(self):
        session = Session()
        session.put(1023, data_bytes(1))
        for slot in [1024, LARGEST]:
            session.put(slot, data_bytes(2))
            session.get(slot)
        session.get(0)
        session.get(1022)
        session.get(1023)
        session.put(1023, data_bytes(3))
        session.get(1023)
        self.check(session)

    def test_get_of_a_new_object(self):
        for slot in [0, 17, 1023]:
            self.assertEqual(answers(get_call(slot)), [3, -2, 1, 1])

    def test_get_where_the_way_ends(self):
        """From the root alone on the way to the leaf alone missing."""
        keys = keys_of(2)
        for depth in range(10):
            other = 1 << (9 - depth)
            calls = put_call(0, data_bytes(1), keys) + get_call(other)
            number, nothing, asked = self.asked(calls, 1)
            wanted = [[1]]
            for above in range(depth + 1):
                wanted += [[3, 2 ** (above + 1)], [6] + keys[above]]
            self.assertEqual((number, asked), (-2, wanted))


if __name__ == "__main__":
    unittest.main()
