"""Letters: when one is right, and how those that a node sends are written."""

from coinagree.node import is_other_node, is_stage, is_word_of_stage

LETTER_BYTES = 8
TO_AT = 0
FROM_AT = 1
STAGE_AT = 2
WORD_AT = 3
ZEROS_AT = 4


def is_right_letter(letter, node):
    if len(letter) != LETTER_BYTES:
        return False
    if letter[TO_AT] != node.me or not is_other_node(letter[FROM_AT], node.me, node.n):
        return False
    if not is_stage(letter[STAGE_AT]) or not is_word_of_stage(letter[WORD_AT], letter[STAGE_AT]):
        return False
    return not any(letter[ZEROS_AT:])


def written_letter(node, receiver, stage):
    return [receiver, node.me, stage, node.own_words[stage], 0, 0, 0, 0]


def letters_to_others(node):
    sent = []
    for receiver in range(node.n):
        if receiver != node.me:
            sent.extend(written_letter(node, receiver, node.stage))
    return sent
