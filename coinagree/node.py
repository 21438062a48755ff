"""What one node keeps, and which numbers and words are right for it."""

FEWEST_NODES = 2
MOST_NODES = 16
LAST_STAGE = 128
NOTHING = 2


# heard has a dict for each stage 0 to 127, senders to words: so nobody is heard twice in a stage.
class Node:
    def __init__(self, me, n, coins, own_words, answer, heard):
        self.me = me
        self.n = n
        self.coins = coins
        self.stage = len(own_words) - 1
        self.own_words = own_words
        self.answer = answer
        self.heard = heard


def begun_node(me, n, value, coins):
    return Node(me, n, coins, [value], None, [{} for stage in range(LAST_STAGE)])


def copied_node(node):
    heard = [dict(words) for words in node.heard]
    return Node(node.me, node.n, node.coins, list(node.own_words), node.answer, heard)


def most_stopped(n):
    return (n - 1) // 2


def enough_words(n):
    return n - most_stopped(n)


def is_node_among(me, n):
    return FEWEST_NODES <= n <= MOST_NODES and 0 <= me < n


def is_other_node(number, me, n):
    return 0 <= number < n and number != me


def is_stage(number):
    return 0 <= number <= LAST_STAGE


def is_first_of_round(stage):
    return stage % 2 == 0


def is_word_of_stage(word, stage):
    if is_first_of_round(stage):
        return 0 <= word <= 1
    return 0 <= word <= NOTHING
