"""The way that is gone (-71): no call leads there yet, so register and pages are laid out here."""

import unittest

from surelyforgotten.outside import Outside
from surelyforgotten.slots import clear_all, get_slot, put_slot
from vault_model import covered, data_bytes, key_bytes, keys_of


def asked_by(outside, slot_call):
    """The answer's number and data, and what was asked, of one call more."""
    outside.begin_call()
    told = slot_call()
    return told, outside.asked_count, outside.asked_numbers


def filled(slot):
    outside = Outside()
    outside.give_script([byte for key in keys_of(1) for byte in key])
    put_slot(outside, slot, data_bytes(1))
    return outside


def spoil(outside, depth, place, value):
    """On the way to slot 0: one byte under the node at that depth becomes another."""
    key = keys_of(1)[depth]
    page = 2 ** (depth + 1)
    plain = covered(outside.pages[page], key)
    plain[place] = value
    outside.pages[page] = covered(plain, key)


class GoneTest(unittest.TestCase):
    def both(self, outside, slot):
        """get and put are refused alike, and change nothing."""
        register = list(outside.in_register)
        pages = dict(outside.pages)
        got = asked_by(outside, lambda: get_slot(outside, slot))
        put = asked_by(outside, lambda: put_slot(outside, slot, data_bytes(2)))
        self.assertEqual(got, put)
        self.assertEqual((outside.in_register, outside.pages), (register, pages))
        return got

    def test_register_tells_a_copy_above_2(self):
        for copy in [3, 4, 128, 255]:
            outside = Outside()
            outside.in_register = [copy, 0, 0, 0] + key_bytes(1) + [0] * 4
            self.assertEqual(self.both(outside, 5), ([-71], 1, [1]))

    def test_slot_is_looked_at_first(self):
        outside = Outside()
        outside.in_register = [3] + [0] * 39
        self.assertEqual(self.both(outside, 1024), ([-22], 0, []))

    def test_a_child_on_the_way_or_beside_it(self):
        for depth in range(10):
            for place in [64, 65]:
                outside = filled(0)
                spoil(outside, depth, place, 3)
                asked = [1]
                for above in range(depth + 1):
                    asked += [3, 2 ** (above + 1), 6] + keys_of(1)[above]
                wanted = ([-71], 2 * depth + 3, asked)
                self.assertEqual(self.both(outside, 0), wanted)

    def test_gone_ahead_of_not_there(self):
        """The child on the way isn't there, and the one beside it is told wrongly."""
        outside = filled(0)
        spoil(outside, 0, 64, 200)
        self.assertEqual(self.both(outside, 1023)[0], [-71])

    def test_a_wrong_copy_off_the_way_is_not_met(self):
        outside = filled(0)
        spoil(outside, 1, 64, 3)
        self.assertEqual(asked_by(outside, lambda: get_slot(outside, 1023))[0], [-2])

    def test_copy_2_is_none(self):
        outside = filled(0)
        spoil(outside, 9, 64, 2)
        told = asked_by(outside, lambda: get_slot(outside, 0))
        self.assertEqual(told[0], [0] + covered([0] * 96, keys_of(1)[10])[:64])
        self.assertEqual(told[2][-35:], [3, 2049, 6] + keys_of(1)[10])

    def test_clear_does_not_ask(self):
        outside = Outside()
        outside.in_register = [3] + [7] * 39
        self.assertEqual(asked_by(outside, lambda: clear_all(outside)), ([0], 1, [2] + [0] * 40))
        self.assertEqual(asked_by(outside, lambda: get_slot(outside, 0)), ([-2], 1, [1]))

    def test_keys_beside_copies_of_0_are_kept(self):
        """The other child's key is handed on as it was, even where it has copy 0."""
        outside = filled(0)
        spoil(outside, 9, 40, 99)
        outside.begin_call()
        keys = keys_of(2)
        outside.give_script([byte for key in keys for byte in key])
        self.assertEqual(put_slot(outside, 0, data_bytes(2)), [0])
        plain = covered(outside.pages[1025], keys[9])
        self.assertEqual(plain[32:64], [0] * 8 + [99] + [0] * 23)
        self.assertEqual(plain[64:], [2, 0] + [0] * 30)


if __name__ == "__main__":
    unittest.main()
