"""What holds (a, b) over longer runs, and that nothing else is lost when power goes."""

import unittest

from surelyforgotten.vault import answers
from vault_model import (Session, VaultCase, clear_call, counting_pages, data_bytes, forget_call,
                         get_call, page_call, register_call, split_answer, split_answers)

SLOTS = [0, 1, 2, 3, 511, 512, 1022, 1023]


class Run:
    """A long run of put, get, forget and clear, with what a plain dict tells of it."""

    def __init__(self, seed, slots):
        self.session = Session()
        self.steps = []
        self.stored = {}
        state = seed
        while len(self.session.calls) < 28000:
            state = (state * 1103515245 + 12345) % 2 ** 31
            self.step(slots[(state >> 8) % len(slots)], (state >> 18) % 50, data_bytes(state))

    def step(self, slot, kind, data):
        if kind == 0:
            self.session.clear()
            self.stored = {}
        elif kind < 16:
            self.session.put(slot, data)
            self.stored[slot] = data
        elif kind < 20 and slot in self.stored:
            # What's there already, put once more.
            self.session.put(slot, self.stored[slot])
        elif kind < 34:
            self.session.forget(slot)
            self.stored.pop(slot, None)
        else:
            self.session.get(slot)
        self.steps.append((kind, slot, dict(self.stored)))


def runs():
    return [Run(1, SLOTS), Run(2, [0, 1023]), Run(3, [0]), Run(4, [1022, 1023]), Run(5, range(1024)),
            Run(6, range(4, 12))]


class HoldsTest(VaultCase):
    def test_all_that_is_answered(self):
        for run in runs():
            self.assertLessEqual(len(run.session.calls), 31000)
            self.check(run.session)

    def test_get_tells_what_was_put_last(self):
        """a, also of every other slot behind each call."""
        for run in runs():
            given = split_answers(answers(run.session.calls))
            for answer, (kind, slot, stored) in zip(given, run.steps):
                if kind >= 34:
                    number, data, asked = split_answer(answer, True)
                    self.assertEqual((number, data), (0, stored[slot]) if slot in stored else (-2, None))

    def test_no_page_is_written_over_while_its_copy_counts(self):
        """b, and nothing is lost ahead of the register's turn, nor stays that was forgotten."""
        for run in runs():
            register = [0] * 40
            pages = {}
            before = {}
            given = split_answers(answers(run.session.calls))
            for answer, (kind, slot, stored) in zip(given, run.steps):
                for thing in split_answer(answer, kind >= 34)[2]:
                    if thing[0] == 4:
                        counting, data = counting_pages(register, pages)
                        self.assertNotIn(thing[1], counting)
                        self.assertEqual(data, before)
                        pages[thing[1]] = thing[2:]
                    if thing[0] == 2:
                        register = thing[1:]
                self.assertEqual(counting_pages(register, pages)[1], stored)
                before = stored

    def test_both_ends(self):
        session = Session()
        for turn in range(4):
            for slot in [0, 1023]:
                session.put(slot, data_bytes(turn))
                session.put(slot, data_bytes(turn))
            session.get(0)
            session.get(1023)
            session.forget([0, 1023][turn % 2])
            session.get(0)
            session.get(1023)
        self.check(session)

    def test_no_key_stays_where_a_child_changed(self):
        """Behind put and forget, what leads to the change stands under the call's new keys alone."""
        session = Session()
        for slot in [8, 9, 10, 900]:
            session.put(slot, data_bytes(slot))
        for turn in range(2):
            old = {node: key for node, (copy, key) in session.model.nodes.items()}
            if turn == 0:
                session.put(9, data_bytes(1))
            else:
                session.forget(9)
            asked = self.asked(session.calls, 4 + turn)[2]
            new = [thing[1:] for thing in asked[21:] if thing[0] == 6]
            self.assertEqual(len(new), [11, 10][turn])
            for key in new:
                self.assertNotIn(key, old.values())
        self.check(session)


class PowerTest(VaultCase):
    """Power goes behind each thing written, with the next page cut off in its middle."""

    def cut(self, session, last_call):
        """The register and pages ahead of a call, and what it writes."""
        register = [0] * 40
        pages = {}
        for answer in split_answers(answers(session.calls)):
            self.take(answer, register, pages)
        given = split_answers(answers(session.calls + last_call))
        return register, pages, [thing for thing in split_answer(given[-1])[2] if thing[0] in (2, 4)]

    def take(self, answer, register, pages):
        for thing in split_answer(answer)[2]:
            if thing[0] == 4:
                pages[thing[1]] = thing[2:]
            if thing[0] == 2:
                register[:] = thing[1:]

    def stored_there(self, register, pages):
        """What get tells of the slots, on a new object with these bytes."""
        calls = register_call(register)
        for page in pages:
            calls += page_call(page, pages[page])
        for slot in SLOTS:
            calls += get_call(slot)
        stored = {}
        for slot, answer in zip(SLOTS, split_answers(answers(calls))[1 + len(pages):]):
            number, data, asked = split_answer(answer, True)
            self.assertIn(number, [0, -2])
            if number == 0:
                stored[slot] = data
        return stored

    def check_cuts(self, session, last_call, before, behind):
        register, pages, written = self.cut(session, last_call)
        self.assertEqual(self.stored_there(register, pages), before)
        for thing in written:
            if thing[0] == 2:
                self.assertEqual(self.stored_there(thing[1:], pages), behind)
                continue
            old = pages.get(thing[1], [0] * 96)
            pages[thing[1]] = thing[2:50] + old[48:]
            self.assertEqual(self.stored_there(register, pages), before)
            pages[thing[1]] = thing[2:]
            self.assertEqual(self.stored_there(register, pages), before)
        self.assertEqual(written[-1][0], 2)

    def filled(self):
        session = Session()
        for turn, slot in enumerate([0, 1, 1023, 0, 512]):
            session.put(slot, data_bytes(turn))
        return session, dict(session.model.data)

    def test_power_goes_in_put(self):
        for slot in [0, 2, 1022]:
            session, before = self.filled()
            place = len(session.calls)
            session.put(slot, data_bytes(77))
            last_call = session.calls[place:]
            session.calls = session.calls[:place]
            self.check_cuts(session, last_call, before, session.model.data)

    def test_power_goes_in_forget(self):
        for slot in [0, 1, 512, 1023]:
            session, before = self.filled()
            place = len(session.calls)
            session.forget(slot)
            last_call = session.calls[place:]
            session.calls = session.calls[:place]
            self.check_cuts(session, last_call, before, session.model.data)

    def test_power_goes_in_the_last_forget_and_in_clear(self):
        session = Session()
        session.put(1023, data_bytes(1))
        before = dict(session.model.data)
        self.check_cuts(session, forget_call(1023, []), before, {})
        self.check_cuts(session, clear_call(), before, {})


if __name__ == "__main__":
    unittest.main()
