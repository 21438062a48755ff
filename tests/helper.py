"""Writes calls and the bytes that the document tells of, and takes answers apart."""

from coinagree.desk import answers

PLENTY = 2147483647
LOWEST = -2147483648
ALL_COINS = 2 ** 64 - 1


def begin(me, n, value, coins=0, which=0):
    return [0, which, me, n, value, coins]


def save(which=0):
    return [1, which]


def load(saved, which=0):
    return [2, which, len(saved)] + saved


def receive(letter, most=PLENTY, which=0):
    return [3, which, most, len(letter)] + letter


def again(to, stage, most=PLENTY, which=0):
    return [4, which, to, stage, most]


def tell_answer(which=0):
    return [5, which]


def tell_stage(which=0):
    return [6, which]


def letter(to, sender, stage, word):
    return [to, sender, stage, word, 0, 0, 0, 0]


def letters(me, n, stage, word):
    """What node me sends when it has come to that stage with that word."""
    sent = []
    for to in range(n):
        if to != me:
            sent += letter(to, me, stage, word)
    return sent


def saved_bytes(me, n, words, answer=None, coins=0, heard=None):
    """The 2200 bytes; words are the node's own, heard has (stage, sender): word."""
    told = [0] * 2200
    told[0] = me
    told[1] = n
    told[2] = len(words) - 1
    told[3] = {None: 0, 0: 1, 1: 2}[answer]
    told[8:16] = list(coins.to_bytes(8, "little"))
    told[16:16 + len(words)] = words
    for (stage, sender), word in (heard or {}).items():
        told[152 + 16 * stage + sender] = word + 1
    return told


def ask(*calls):
    """The answers to these calls, a list each; every count must fit."""
    told = answers([number for call in calls for number in call])
    parts = []
    place = 0
    while place < len(told):
        parts.append(told[place + 1:place + 1 + told[place]])
        if len(parts[-1]) != told[place] or told[place] < 1:
            raise ValueError("a count does not fit what is behind it")
        place += 1 + told[place]
    if len(parts) != len(calls):
        raise ValueError("not one answer for each call")
    return parts


def last(*calls):
    return ask(*calls)[-1]


def after(*calls):
    """The 2200 bytes that object 0 is saved as behind these calls."""
    answer = last(*calls, save())
    if answer[0] != 0 or len(answer) != 2201:
        raise ValueError("not the answer of a yn_save")
    return answer[1:]
