"""What a right letter does to a node: its word is heard, and the node may go on."""

from coinagree.letters import FROM_AT, STAGE_AT, WORD_AT, letters_to_others
from coinagree.node import LAST_STAGE, NOTHING, enough_words, is_first_of_round, most_stopped


# The letter must be right (is_right_letter); the node is changed, and what it sends is given back.
def take_letter(node, letter):
    sent = []
    if not is_news(node, letter):
        return sent
    node.heard[letter[STAGE_AT]][letter[FROM_AT]] = letter[WORD_AT]
    while can_go_on(node):
        go_on(node)
        sent.extend(letters_to_others(node))
    return sent


def is_news(node, letter):
    stage = letter[STAGE_AT]
    if stage < node.stage or stage == LAST_STAGE:
        return False
    return letter[FROM_AT] not in node.heard[stage]


def can_go_on(node):
    return node.stage < LAST_STAGE and len(words_there(node)) >= enough_words(node.n)


def words_there(node):
    return [node.own_words[node.stage]] + list(node.heard[node.stage].values())


def go_on(node):
    words = words_there(node)
    if is_first_of_round(node.stage):
        word = word_of_most(words, node.n)
    else:
        word = word_of_any(words, coin_of_round(node))
        # An answer once come to stays, whatever later rounds say.
        if node.answer is None:
            node.answer = answer_of(words, node.n)
    node.heard[node.stage] = {}
    node.own_words.append(word)
    node.stage += 1


def word_of_most(words, n):
    if 2 * words.count(0) > n:
        return 0
    if 2 * words.count(1) > n:
        return 1
    return NOTHING


def word_of_any(words, coin):
    if 0 in words:
        return 0
    if 1 in words:
        return 1
    return coin


def coin_of_round(node):
    return (node.coins >> (node.stage // 2)) & 1


def answer_of(words, n):
    if words.count(0) > most_stopped(n):
        return 0
    if words.count(1) > most_stopped(n):
        return 1
    return None
