"""The 2200 bytes of a saved node: writing them, asking if they are so, reading them."""

from coinagree.node import LAST_STAGE, MOST_NODES, Node
from coinagree.node import enough_words, is_node_among, is_other_node, is_stage, is_word_of_stage

ME_AT = 0
N_AT = 1
STAGE_AT = 2
ANSWER_AT = 3
HEAD_ZEROS_AT = 4
COINS_AT = 8
WORDS_AT = 16
HEARD_AT = 152
MOST_ANSWER_BYTE = 2


def bytes_of_node(node):
    head = [node.me, node.n, node.stage, byte_of_answer(node.answer), 0, 0, 0, 0]
    # The zeros behind the words are filled up together with the stages not come to.
    unused = [0] * (HEARD_AT - WORDS_AT - len(node.own_words))
    saved = head + bytes_of_coins(node.coins) + node.own_words + unused
    for words in node.heard:
        saved.extend(bytes_of_heard(words))
    return saved


def byte_of_answer(answer):
    return 0 if answer is None else answer + 1


def bytes_of_coins(coins):
    return [(coins >> (8 * place)) & 255 for place in range(WORDS_AT - COINS_AT)]


def bytes_of_heard(words):
    return [words[sender] + 1 if sender in words else 0 for sender in range(MOST_NODES)]


def is_saved_node(saved):
    return is_right_head(saved) and are_right_own_words(saved) and is_right_heard(saved)


def is_right_head(saved):
    if not is_node_among(saved[ME_AT], saved[N_AT]):
        return False
    if not is_stage(saved[STAGE_AT]) or saved[ANSWER_AT] > MOST_ANSWER_BYTE:
        return False
    return not any(saved[HEAD_ZEROS_AT:COINS_AT])


def are_right_own_words(saved):
    own_words = own_words_from(saved)
    if any(saved[WORDS_AT + len(own_words):HEARD_AT]):
        return False
    return all([is_word_of_stage(word, stage) for stage, word in enumerate(own_words)])


def is_right_heard(saved):
    now = saved[STAGE_AT]
    heard = heard_from(saved)
    if any(heard[:now]):
        return False
    for stage in range(now, LAST_STAGE):
        if not are_right_heard_words(heard[stage], stage, saved[ME_AT], saved[N_AT]):
            return False
    # With its own word and enough others the node would have gone on already.
    return now == LAST_STAGE or len(heard[now]) < enough_words(saved[N_AT]) - 1


def are_right_heard_words(words, stage, me, n):
    for sender, word in words.items():
        if not is_other_node(sender, me, n) or not is_word_of_stage(word, stage):
            return False
    return True


# The bytes must be so (is_saved_node): nothing is asked again here.
def node_from_bytes(saved):
    answer = None if saved[ANSWER_AT] == 0 else saved[ANSWER_AT] - 1
    coins = coins_from(saved)
    return Node(saved[ME_AT], saved[N_AT], coins, own_words_from(saved), answer, heard_from(saved))


def coins_from(saved):
    coins = 0
    for part in reversed(saved[COINS_AT:WORDS_AT]):
        coins = coins * 256 + part
    return coins


def own_words_from(saved):
    return saved[WORDS_AT:WORDS_AT + saved[STAGE_AT] + 1]


def heard_from(saved):
    return [heard_in_stage(saved, stage) for stage in range(LAST_STAGE)]


def heard_in_stage(saved, stage):
    start = HEARD_AT + MOST_NODES * stage
    words = {}
    for sender, told in enumerate(saved[start:start + MOST_NODES]):
        if told > 0:
            words[sender] = told - 1
    return words
