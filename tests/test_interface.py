"""answers(calls): what is handed in and given back, with all calls in one list."""

import unittest

from medium_model import Medium
from surelyforgotten.vault import answers
from vault_model import (Session, VaultCase, clear_call, data_bytes, forget_call, get_call, keys_of,
                         page_call, put_call, register_call)


def all_calls():
    """Each of the calls in one session, refused ones among them."""
    session = Session(Medium())
    for slot in [4, 5, 4, 1024]:
        session.put(slot, data_bytes(slot))
        session.get(slot)
    register = list(session.model.register)
    session.forget(4)
    session.forget(4)
    session.forget(1024)
    session.lay_register(register)
    session.get(4)
    session.lay_page(3, [7] * 96)
    session.lay_page(2, [8] * 96)
    session.get(4)
    session.put(4, data_bytes(1))
    session.forget(4)
    session.clear()
    session.get(4)
    session.put(4, data_bytes(1))
    session.get(4)
    return session


class ListTest(VaultCase):
    def test_all_calls(self):
        self.check(all_calls())

    def test_each_call_first(self):
        keys = keys_of(1)
        calls = put_call(4, data_bytes(1), keys)
        self.assertEqual(answers(clear_call()), [43, 0, 1, 2] + [0] * 40)
        self.assertEqual(answers(calls)[1:14], [0, 35, 1] + [5] * 10)
        self.assertEqual(answers(get_call(4)), [3, -2, 1, 1])
        self.assertEqual(answers(forget_call(4, [])), [3, -2, 1, 1])
        self.assertEqual(answers(register_call([1] * 40)), [1, 0])
        self.assertEqual(answers(page_call(4, [1] * 96)), [1, 0])

    def test_list_handed_in_stays(self):
        calls = all_calls().calls
        before = list(calls)
        answers(calls)
        self.assertEqual(calls, before)

    def test_nothing_is_left_for_the_next_time(self):
        calls = all_calls().calls
        first = answers(calls)
        self.assertEqual(answers(get_call(4)), [3, -2, 1, 1])
        self.assertEqual(answers(forget_call(4, [])), [3, -2, 1, 1])
        first_again = answers(calls)
        self.assertEqual(first_again, first)
        # What's given back is the caller's own.
        first_again.clear()
        self.assertEqual(answers(calls), first)

    def test_bytes_laid_are_not_there_the_next_time(self):
        """The first list leaves a register and a page that the second one would meet."""
        answers(register_call([3] * 40))
        self.assertEqual(answers(get_call(4)), [3, -2, 1, 1])
        answers(page_call(2, [1] * 96))
        calls = register_call([1] + [0] * 39)
        asked_there = self.asked(calls + get_call(4), 1)
        self.assertEqual(asked_there, (-71, None, [[1], [3, 2], [6] + [0] * 32]))
        page = page_call(2, list(range(64)) + [64, 65] + [0] * 30)
        self.assertEqual(self.asked(calls + page + get_call(4), 2)[0], -2)
        self.assertEqual(self.asked(calls + get_call(4), 1), asked_there)

    def test_whole_numbers_alone(self):
        given = answers(all_calls().calls)
        self.assertIs(given.__class__, list)
        self.assertEqual({number.__class__ for number in given}, {int})


class ThousandTest(VaultCase):
    def test_a_thousand_of_put_and_get(self):
        session = Session()
        for slot in range(60):
            session.put(slot * 389 % 1024, data_bytes(slot))
        for turn in range(940):
            session.get(turn * 389 % 1024)
        self.assertLessEqual(len(session.calls), 31000)
        self.check(session)

    def test_a_thousand_of_all(self):
        session = Session(Medium())
        registers = []
        while len(session.wanted) < 1000:
            turn = len(session.wanted)
            slot = turn * 389 % 1024 % 40
            if turn % 25 == 0:
                session.put(slot, data_bytes(turn))
                registers.append(list(session.model.register))
            elif turn % 29 == 0:
                session.forget(slot)
            elif turn % 100 == 7:
                session.lay_page(turn * 4 % 4096, [turn % 256] * 96)
            elif turn % 100 == 57:
                session.lay_register(registers[-2])
            elif turn == 650:
                session.clear()
            else:
                session.get(slot)
        self.assertLessEqual(len(session.calls), 31000)
        self.check(session)

    def test_a_thousand_of_one_kind(self):
        for call, answer in [([0], [43, 0, 1, 2] + [0] * 40), ([2, 1023], [3, -2, 1, 1]),
                             ([3, 0, 0], [3, -2, 1, 1]), ([3, 1024, 0], [2, -22, 0])]:
            self.assertEqual(answers(call * 1000), answer * 1000)

    def test_mixed_calls(self):
        """A long run over few and over many slots, with clears, refused slots and gets."""
        for width in [2, 5, 64, 1030]:
            session = Session()
            state = width
            for turn in range(250):
                state = (state * 1103515245 + 12345) % 2 ** 31
                slot = (state >> 8) % width
                kind = (state >> 20) % 25
                if kind == 0:
                    session.clear()
                elif kind < 10 and len(session.calls) < 30000:
                    session.put(slot, data_bytes(state))
                elif kind < 15 and len(session.calls) < 30000:
                    session.forget(slot)
                else:
                    session.get(slot)
            self.assertLessEqual(len(session.calls), 31000)
            self.check(session)


if __name__ == "__main__":
    unittest.main()
