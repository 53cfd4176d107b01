"""What the calls do: each gives back what it answers ahead of what was asked."""

from surelyforgotten.nodes import DATA_SIZE, REGISTER_SIZE, leaf_content, no_link, register_content
from surelyforgotten.way import LEAF_DEPTH, count_staying, go_way, read_copy, write_copy
from surelyforgotten.way import write_upwards


def clear_all(outside):
    outside.put_register([0] * REGISTER_SIZE)
    return [0]


def get_slot(outside, slot):
    way = go_way(outside, slot)
    if way.refusal != 0:
        return [way.refusal]
    link = way.links[LEAF_DEPTH]
    if not link.is_there():
        return [-2]
    content = read_copy(outside, way.nodes[LEAF_DEPTH], link)
    return [0] + content[0:DATA_SIZE]


def put_slot(outside, slot, data):
    way = go_way(outside, slot)
    if way.refusal != 0:
        return [way.refusal]
    keys = outside.ask_new_keys(LEAF_DEPTH + 1)
    node = way.nodes[LEAF_DEPTH]
    leaf = write_copy(outside, node, way.links[LEAF_DEPTH], keys[LEAF_DEPTH], leaf_content(data))
    root = write_upwards(outside, way, keys[0:LEAF_DEPTH], leaf)
    outside.put_register(register_content(root))
    return [0]


def forget_slot(outside, slot):
    way = go_way(outside, slot)
    if way.refusal != 0:
        return [way.refusal]
    if not way.links[LEAF_DEPTH].is_there():
        return [-2]
    keys = outside.ask_new_keys(count_staying(way))
    # If none stays there is nothing to write, and no root either: the register gets 0s.
    root = write_upwards(outside, way, keys, no_link())
    outside.put_register(register_content(root))
    return [0]
