"""The desk: a list of calls in, the list of their answers out."""

from coinagree.letters import is_right_letter, written_letter
from coinagree.node import begun_node, copied_node, is_node_among, is_other_node, is_stage
from coinagree.reader import Reader
from coinagree.saved import bytes_of_node, is_saved_node, node_from_bytes
from coinagree.stages import take_letter

DONE = 0
BAD_ARGUMENTS = -2
BAD_BYTES = -3
NOT_COME_TO = -4
TOO_LONG = -7

LONGEST_LETTER = 1024


def yn_begin(nodes, reader):
    which = reader.take_number()
    me = reader.take_number()
    n = reader.take_number()
    value = reader.take_number()
    coins = reader.take_number()
    if not is_node_among(me, n) or not 0 <= value <= 1:
        return [BAD_ARGUMENTS]
    nodes[which] = begun_node(me, n, value, coins)
    return [DONE]


def yn_save(nodes, reader):
    which = reader.take_number()
    return [DONE] + bytes_of_node(nodes[which])


def yn_load(nodes, reader):
    which = reader.take_number()
    saved = reader.take_row()
    if not is_saved_node(saved):
        return [BAD_BYTES]
    nodes[which] = node_from_bytes(saved)
    return [DONE]


def yn_receive(nodes, reader):
    which = reader.take_number()
    most = reader.take_number()
    letter = reader.take_row()
    if len(letter) > LONGEST_LETTER or most < 0:
        return [BAD_ARGUMENTS]
    if not is_right_letter(letter, nodes[which]):
        return [BAD_BYTES]
    # How much is sent is known only once it is done, and a refusal must leave no trace.
    changed = copied_node(nodes[which])
    sent = take_letter(changed, letter)
    if len(sent) > most:
        return [TOO_LONG]
    nodes[which] = changed
    return [len(sent)] + sent


def yn_again(nodes, reader):
    node = nodes[reader.take_number()]
    to = reader.take_number()
    stage = reader.take_number()
    most = reader.take_number()
    if not is_other_node(to, node.me, node.n) or not is_stage(stage) or most < 0:
        return [BAD_ARGUMENTS]
    if node.stage < stage:
        return [NOT_COME_TO]
    sent = written_letter(node, to, stage)
    if len(sent) > most:
        return [TOO_LONG]
    return [len(sent)] + sent


def yn_answer(nodes, reader):
    node = nodes[reader.take_number()]
    if node.answer is None:
        return [NOT_COME_TO]
    return [node.answer]


def yn_stage(nodes, reader):
    node = nodes[reader.take_number()]
    return [node.stage]


CALLS = {
    0: yn_begin,
    1: yn_save,
    2: yn_load,
    3: yn_receive,
    4: yn_again,
    5: yn_answer,
    6: yn_stage,
}


def answers(calls):
    reader = Reader(calls)
    nodes = {}
    told = []
    while reader.has_more():
        number = reader.take_number()
        answer = CALLS[number](nodes, reader)
        told.append(len(answer))
        told.extend(answer)
    return told
