"""register and page: the promise 5, and what get, put and forget answer by the bytes laid there."""

import unittest

from medium_model import Medium
from surelyforgotten.vault import answers
from vault_model import (Session, VaultCase, clear_call, covered, data_bytes, forget_call, get_call,
                         key_bytes, keys_of, page_call, put_call, register_call, split_answers, way_to)

NO_KEY = [0] * 32
KEYS = keys_of(7)


def register_of(copy, key):
    return [copy, 0, 0, 0] + key + [0, 0, 0, 0]


def laid_way(slot, copy, keys, data):
    """The calls that lay a register, a whole way to the slot and its leaf, all at that copy."""
    calls = register_call(register_of(copy, keys[0]))
    way = way_to(slot)
    for depth, node in enumerate(way):
        if depth == 10:
            plain = data + [0] * 32
        elif way[depth + 1] % 2 == 0:
            plain = keys[depth + 1] + NO_KEY + [copy, 0] + [0] * 30
        else:
            plain = NO_KEY + keys[depth + 1] + [0, copy] + [0] * 30
        calls += page_call(2 * node + copy - 1, covered(plain, keys[depth]))
    return calls


def root_laid(plain, copy=1):
    """The calls that lay a register and the root alone."""
    return register_call(register_of(copy, KEYS[0])) + page_call(1 + copy, covered(plain, KEYS[0]))


class AnswerTest(VaultCase):
    def test_0_alone_is_answered(self):
        self.assertEqual(answers(register_call([0] * 40)), [1, 0])
        self.assertEqual(answers(register_call([255] * 40)), [1, 0])
        for page in [0, 1, 2, 3, 2047, 2048, 4095]:
            self.assertEqual(answers(page_call(page, [255] * 96)), [1, 0])

    def test_nothing_asked_is_left_for_the_next_call(self):
        calls = get_call(4) + register_call([0] * 40) + page_call(2, [7] * 96) + get_call(4)
        calls += clear_call() + page_call(3, [7] * 96) + get_call(4)
        wanted = [3, -2, 1, 1, 1, 0, 1, 0, 3, -2, 1, 1, 43, 0, 1, 2] + [0] * 40
        self.assertEqual(answers(calls), wanted + [1, 0, 3, -2, 1, 1])

    def test_pages_that_no_node_has(self):
        """Pages 0 and 1, and pages that no copy tells of, change nothing."""
        calls = put_call(0, data_bytes(1), KEYS)
        plain_answer = split_answers(answers(calls + get_call(0)))[-1]
        for page in [0, 1, 3, 5, 6, 2049, 4095]:
            calls += page_call(page, [200] * 96)
        self.assertEqual(split_answers(answers(calls + get_call(0)))[-1], plain_answer)


class LaidWayTest(VaultCase):
    def test_get_goes_by_these_bytes(self):
        for slot in [0, 1, 600, 1023]:
            for copy in [1, 2]:
                calls = laid_way(slot, copy, KEYS, data_bytes(3)) + get_call(slot)
                number, data, asked = self.asked(calls, 12, True)
                wanted = [[1]]
                for node, key in zip(way_to(slot), KEYS):
                    wanted += [[3, 2 * node + copy - 1], [6] + key]
                self.assertEqual((number, data, asked), (0, data_bytes(3), wanted))

    def test_put_goes_by_these_bytes(self):
        """The other copy is written, at each node."""
        new = keys_of(8)
        for slot in [0, 1, 600, 1023]:
            for copy in [1, 2]:
                calls = laid_way(slot, copy, KEYS, data_bytes(3)) + put_call(slot, data_bytes(4), new)
                asked = self.asked(calls, 12)[2]
                self.assertEqual([thing[1] for thing in asked if thing[0] == 4],
                                 [2 * node + (2 - copy) for node in reversed(way_to(slot))])
                self.assertEqual(asked[-1], [2] + register_of(3 - copy, new[0]))
                self.assertEqual(self.asked(calls + get_call(slot), 13, True)[1], data_bytes(4))

    def test_forget_goes_by_these_bytes(self):
        for copy in [1, 2]:
            calls = laid_way(600, copy, KEYS, data_bytes(3)) + forget_call(600, [])
            number, nothing, asked = self.asked(calls, 12)
            wanted = [[1]]
            for node, key in zip(way_to(600)[:10], KEYS):
                wanted += [[3, 2 * node + copy - 1], [6] + key]
            self.assertEqual((number, asked), (0, wanted + [[2] + [0] * 40]))

    def test_forget_with_another_child_laid(self):
        """That child's own page is garbage: it counts all the same, and isn't read."""
        new = keys_of(8)[:3]
        plain = KEYS[3] + key_bytes(50) + [1, 2] + [0] * 30
        calls = laid_way(0, 1, KEYS, data_bytes(3)) + page_call(8, covered(plain, KEYS[2]))
        calls += page_call(19, [77] * 96) + forget_call(0, new)
        asked = self.asked(calls, 14)[2]
        self.assertEqual([thing[1] for thing in asked if thing[0] == 4], [9, 5, 3])
        self.assertEqual(covered(asked[-6][2:], new[2]), NO_KEY + key_bytes(50) + [0, 2] + [0] * 30)
        self.assertEqual(covered(asked[-4][2:], new[1]), new[2] + NO_KEY + [2, 0] + [0] * 30)
        self.assertEqual(asked[-1], [2] + register_of(2, new[0]))


class RegisterTest(VaultCase):
    def test_all_0s_as_if_nothing_were_there(self):
        session = Session(Medium())
        session.put(4, data_bytes(1))
        session.lay_register([0] * 40)
        session.get(4)
        session.forget(4)
        session.put(5, data_bytes(2))
        session.get(4)
        session.get(5)
        self.check(session)

    def test_copy_0_and_a_key_that_is_not_0s(self):
        laid = register_call([0, 9, 9, 9] + key_bytes(3) + [9] * 4)
        self.assertEqual(answers(laid + get_call(5)), [1, 0, 3, -2, 1, 1])
        self.assertEqual(answers(laid + forget_call(5, [])), [1, 0, 3, -2, 1, 1])
        put = put_call(5, data_bytes(1), KEYS)
        self.assertEqual(answers(laid + put)[2:], answers(put))

    def test_bytes_beside_the_copy_and_the_key(self):
        """They change nothing, and are 0s again with the next put or forget."""
        calls = put_call(4, data_bytes(1), keys_of(1)) + put_call(5, data_bytes(2), keys_of(2))
        calls += register_call([2, 7, 8, 9] + keys_of(2)[0] + [6, 5, 4, 3])
        calls += get_call(4)
        self.assertEqual(self.asked(calls, 3, True)[:2], (0, data_bytes(1)))
        asked = self.asked(calls + put_call(4, data_bytes(3), keys_of(3)), 4)[2]
        self.assertEqual(asked[-1], [2] + register_of(1, keys_of(3)[0]))
        asked = self.asked(calls + forget_call(4, keys_of(3)[:10]), 4)[2]
        self.assertEqual(asked[-1], [2] + register_of(1, keys_of(3)[0]))

    def test_an_older_register_put_back(self):
        """As if power had gone ahead of the register's turn: what was there is there again."""
        first, second = keys_of(1), keys_of(2)
        calls = put_call(6, data_bytes(1), first) + put_call(6, data_bytes(2), second)
        calls += register_call(register_of(1, first[0])) + get_call(6)
        number, data, asked = self.asked(calls, 3, True)
        self.assertEqual((number, data), (0, data_bytes(1)))
        self.assertEqual(asked[1:3], [[3, 2], [6] + first[0]])
        calls += put_call(6, data_bytes(3), keys_of(3)) + get_call(6)
        written = [thing[1] for thing in self.asked(calls, 4)[2] if thing[0] == 4]
        self.assertEqual(written, [2 * node + 1 for node in reversed(way_to(6))])
        self.assertEqual(self.asked(calls, 5, True)[:2], (0, data_bytes(3)))

    def test_an_older_register_put_back_behind_forget(self):
        session = Session(Medium())
        session.put(6, data_bytes(1))
        session.put(7, data_bytes(2))
        register = list(session.model.register)
        session.forget(6)
        session.get(6)
        session.lay_register(register)
        session.get(6)
        session.forget(7)
        session.get(7)
        session.get(6)
        self.check(session)
        self.assertEqual(self.asked(session.calls, 5, True)[:2], (0, data_bytes(1)))

    def test_a_much_older_register_put_back(self):
        """Its pages were written over since: they're garbage under the older key."""
        for slots in [[6, 6, 6], [6, 7, 6, 900], [900, 6, 7, 900, 6]]:
            session = Session(Medium())
            session.put(slots[0], data_bytes(0))
            register = list(session.model.register)
            for turn, slot in enumerate(slots):
                session.put(slot, data_bytes(turn))
            session.lay_register(register)
            for slot in [6, 7, 900]:
                session.get(slot)
                session.forget(slot)
                session.put(slot, data_bytes(slot))
                session.get(slot)
            self.check(session)


class PageTest(VaultCase):
    def test_a_page_has_the_bytes_as_they_stand(self):
        page = [(place * 37 + 11) % 256 for place in range(96)]
        calls = put_call(0, data_bytes(1), KEYS) + page_call(2048, page) + get_call(0)
        self.assertEqual(self.asked(calls, 2, True)[:2], (0, covered(page, KEYS[10])[:64]))

    def test_a_page_of_garbage_read_as_a_node(self):
        """Its copies happen to be 1 and 2: the way goes on under keys that nobody gave."""
        plain = key_bytes(60) + key_bytes(61) + [1, 2] + [99] * 30
        for slot, page, key in [(0, 4, key_bytes(60)), (1023, 7, key_bytes(61))]:
            below = [0] * 32 + [1] * 32 + [0, 0] + [255] * 30
            calls = root_laid(plain) + page_call(page, covered(below, key))
            for call in [get_call(slot), forget_call(slot, [])]:
                number, nothing, asked = self.asked(calls + call, 3)
                self.assertEqual(number, -2)
                self.assertEqual(asked, [[1], [3, 2], [6] + KEYS[0], [3, page], [6] + key])

    def test_put_over_a_page_of_garbage(self):
        """What's behind the copies becomes 0s; the other child's copy and key stay."""
        new = keys_of(8)
        plain = key_bytes(60) + key_bytes(61) + [0, 2] + [99] * 30
        asked = self.asked(root_laid(plain) + put_call(0, data_bytes(1), new), 2)[2]
        self.assertEqual(asked[-2][:2], [4, 3])
        self.assertEqual(covered(asked[-2][2:], new[0]),
                         new[1] + key_bytes(61) + [1, 2] + [0] * 30)

    def test_copy_0_and_a_key_that_is_not_0s_on_the_way(self):
        new = keys_of(8)
        plain = key_bytes(60) + key_bytes(61) + [0, 1] + [0] * 30
        for call in [get_call(0), forget_call(0, [])]:
            number, nothing, asked = self.asked(root_laid(plain) + call, 2)
            self.assertEqual((number, asked), (-2, [[1], [3, 2], [6] + KEYS[0]]))
        asked = self.asked(root_laid(plain) + put_call(0, data_bytes(1), new), 2)[2]
        self.assertEqual([thing[0] for thing in asked], [1, 3, 6] + [5] * 11 + [6, 4] * 11 + [2])
        self.assertEqual(covered(asked[-4][2:], new[1]), new[2] + NO_KEY + [1, 0] + [0] * 30)

    def test_copy_0_and_a_key_that_is_not_0s_beside_the_way(self):
        """There's no such child, so its node doesn't stay; put hands it on as it was."""
        plain = KEYS[10] + key_bytes(61) + [1, 0] + [0] * 30
        laid = laid_way(0, 1, KEYS, data_bytes(3)) + page_call(1024, covered(plain, KEYS[9]))
        number, nothing, asked = self.asked(laid + forget_call(0, []), 13)
        self.assertEqual((number, len(asked), asked[-1]), (0, 22, [2] + [0] * 40))
        new = keys_of(8)
        asked = self.asked(laid + put_call(0, data_bytes(1), new), 13)[2]
        written = [thing for thing in asked if thing[0] == 4][1]
        self.assertEqual(covered(written[2:], new[9]), new[10] + key_bytes(61) + [2, 0] + [0] * 30)
        calls = laid + put_call(0, data_bytes(1), new) + get_call(1)
        self.assertEqual(self.asked(calls, 14)[0], -2)

    def test_forget_hands_on_copy_0_as_it_was(self):
        """In a node that stays for the sake of one below it."""
        plains = {0: KEYS[1] + key_bytes(61) + [1, 0] + [0] * 30,
                  1: KEYS[2] + key_bytes(62) + [1, 1] + [0] * 30}
        laid = laid_way(0, 1, KEYS, data_bytes(3))
        for depth in plains:
            laid += page_call(2 ** (depth + 1), covered(plains[depth], KEYS[depth]))
        new = keys_of(8)[:2]
        asked = self.asked(laid + forget_call(0, new), 14)[2]
        self.assertEqual(covered(asked[-4][2:], new[1]), NO_KEY + key_bytes(62) + [0, 1] + [0] * 30)
        self.assertEqual(covered(asked[-2][2:], new[0]), new[1] + key_bytes(61) + [2, 0] + [0] * 30)

    def test_a_page_never_written_read_as_a_node(self):
        """All 0s under a key: what's uncovered is its pad."""
        key = [0] * 32
        pad = list(range(96))
        self.assertGreater(pad[64], 2)
        calls = register_call(register_of(2, key)) + get_call(9)
        self.assertEqual(self.asked(calls, 1), (-71, None, [[1], [3, 3], [6] + key]))

    def test_written_over_by_page_then_by_put(self):
        """Garbage on the copies that don't count is written over by the next put."""
        session = Session(Medium())
        session.put(6, data_bytes(1))
        for node in way_to(6):
            session.lay_page(2 * node + 1, [node % 256] * 96)
        session.get(6)
        session.put(6, data_bytes(2))
        session.get(6)
        self.check(session)
        self.assertEqual(self.asked(session.calls, 14, True)[:2], (0, data_bytes(2)))

    def test_counting_leaf_written_over_by_page_then_by_put(self):
        session = Session(Medium())
        session.put(6, data_bytes(1))
        session.lay_page(2 * (1024 + 6), [5] * 96)
        session.get(6)
        session.put(6, data_bytes(2))
        session.get(6)
        session.lay_page(2 * (1024 + 6), [6] * 96)
        session.get(6)
        session.put(6, data_bytes(3))
        session.get(6)
        self.check(session)

    def test_the_same_page_twice(self):
        calls = put_call(0, data_bytes(1), KEYS)
        for value in [1, 2]:
            calls += page_call(2048, [value] * 96)
        self.assertEqual(self.asked(calls + get_call(0), 3, True)[1], covered([2] * 96, KEYS[10])[:64])


class ClearTest(VaultCase):
    def test_clear_leaves_the_pages(self):
        """An older register put back finds them still."""
        keys = keys_of(1)
        calls = put_call(6, data_bytes(1), keys) + clear_call() + get_call(6)
        calls += register_call(register_of(1, keys[0])) + get_call(6)
        self.assertEqual(split_answers(answers(calls))[2], [-2, 1, 1])
        self.assertEqual(self.asked(calls, 4, True)[:2], (0, data_bytes(1)))


class LongTest(VaultCase):
    def test_long_runs_over_spoiled_bytes(self):
        for seed in range(40):
            self.check(spoiled_session(seed))


def spoiled_session(seed):
    """Puts, gets and forgets over few slots, with the register and pages changed now and then."""
    session = Session(Medium())
    registers = [[0] * 40]
    state = seed * 7919 + 1
    while len(session.calls) < 20000 and len(session.wanted) < 200:
        state = (state * 1103515245 + 12345) % 2 ** 31
        slot = [0, 1, 2, 512, 1022, 1023][(state >> 8) % 6]
        kind = (state >> 16) % 16
        if kind < 5:
            session.put(slot, data_bytes(state))
            registers.append(list(session.model.register))
        elif kind < 9:
            session.get(slot)
        elif kind < 12:
            session.forget(slot)
        elif kind == 12:
            session.lay_register(registers[-1 - (state >> 20) % min(len(registers), 4)])
        elif kind == 13 and (state >> 20) % 3 == 0:
            session.clear()
        elif kind == 14:
            spoil_a_node(session, slot, state >> 20)
    return session


def spoil_a_node(session, slot, number):
    """One of a node's copies or keys, of a node on the way to the slot, becomes another."""
    medium = session.model
    steps = len(medium.go(slot)[2])
    if steps == 0:
        return
    node = way_to(slot)[number % steps]
    copy, key = medium.link_of(node)
    plain = medium.plain(node, copy, key)
    place = [64, 65, 64, 65, 3, 40, 80][number % 7]
    plain[place] = [0, 1, 2, 0, 1, 2, 3][number // 7 % 7] if place in (64, 65) else number % 256
    session.lay_page(2 * node + copy - 1, covered(plain, key))


if __name__ == "__main__":
    unittest.main()
