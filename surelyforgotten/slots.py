"""What the calls do: each gives back what it answers ahead of what was asked."""

from surelyforgotten.nodes import DATA_SIZE, REGISTER_SIZE, leaf_content, register_content
from surelyforgotten.way import LEAF_DEPTH, go_way, read_copy, write_copy, write_upwards


def clear_all(outside):
    outside.put_register([0] * REGISTER_SIZE)
    return [0]


def get_slot(outside, slot):
    way = go_way(outside, slot)
    if way.refusal != 0:
        return [way.refusal]
    link = way.links[LEAF_DEPTH]
    if not link.is_there():
        return [-2]
    content = read_copy(outside, way.nodes[LEAF_DEPTH], link)
    return [0] + content[0:DATA_SIZE]


def put_slot(outside, slot, data):
    way = go_way(outside, slot)
    if way.refusal != 0:
        return [way.refusal]
    # All keys are asked for ahead of the first writing, the root's first.
    keys = []
    for depth in range(LEAF_DEPTH + 1):
        keys.append(outside.ask_new_key())
    node = way.nodes[LEAF_DEPTH]
    leaf = write_copy(outside, node, way.links[LEAF_DEPTH], keys[LEAF_DEPTH], leaf_content(data))
    root = write_upwards(outside, way, keys[0:LEAF_DEPTH], leaf)
    outside.put_register(register_content(root))
    return [0]
