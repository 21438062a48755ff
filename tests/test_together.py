"""Nodes that talk to one another, against a second telling of the rules that works on saved bytes."""

import random
import unittest

from coinagree.desk import answers
from tests.helper import PLENTY, again, ask, begin, letter, load, receive, save, saved_bytes, tell_answer, tell_stage


def told_again(saved, came):
    """The bytes behind a right letter, and what is sent, as the document has it."""
    saved = list(saved)
    me, n, stage = saved[:3]
    f = (n - 1) // 2
    sender, of, word = came[1:4]
    sent = []
    if of < stage or of == 128 or saved[152 + 16 * of + sender]:
        return saved, sent
    saved[152 + 16 * of + sender] = word + 1
    while saved[2] < 128:
        stage = saved[2]
        row = saved[152 + 16 * stage:168 + 16 * stage]
        says = {0: 0, 1: 0, 2: 0}
        says[saved[16 + stage]] += 1
        for heard in row:
            if heard:
                says[heard - 1] += 1
        if sum(says.values()) < n - f:
            break
        if stage % 2 == 0:
            new = 0 if says[0] > n / 2 else 1 if says[1] > n / 2 else 2
        else:
            r = stage // 2
            new = 0 if says[0] else 1 if says[1] else saved[8 + r // 8] >> r % 8 & 1
            if not saved[3]:
                saved[3] = 1 if says[0] >= f + 1 else 2 if says[1] >= f + 1 else 0
        saved[152 + 16 * stage:168 + 16 * stage] = [0] * 16
        saved[2] = stage + 1
        saved[17 + stage] = new
        for to in range(n):
            if to != me:
                sent += letter(to, me, stage + 1, new)
    return saved, sent


def any_node(chance):
    n = chance.randint(2, 16)
    me = chance.randrange(n)
    stage = chance.choice((0, 0, 1, 2, 3, 64, 125, 126, 127, 128))
    words = [chance.randint(0, 1 + of % 2) for of in range(stage + 1)]
    others = [node for node in range(n) if node != me]
    heard = {}
    for of in range(stage, min(stage + chance.randint(0, 9), 128)):
        most = n - (n - 1) // 2 - 2 if of == stage else n - 1
        for sender in chance.sample(others, chance.choice((most, chance.randint(0, most)))):
            heard[of, sender] = chance.randint(0, 1 + of % 2)
    answer = chance.choice((None, None, 0, 1))
    return saved_bytes(me, n, words, answer, chance.getrandbits(64), heard)


def any_letter(chance, saved):
    me, n, stage = saved[:3]
    of = max(0, min(128, stage + chance.choice((-1, 0, 0, 0, 0, 1, 2))))
    sender = chance.choice([node for node in range(n) if node != me])
    return letter(me, sender, of, chance.randint(0, 1 + of % 2))


def is_right(saved, came):
    me, n = saved[:2]
    if len(came) != 8 or came[0] != me or came[1] == me or came[1] >= n or came[2] > 128:
        return False
    return came[3] <= 1 + came[2] % 2 and came[4:] == [0] * 4


def answer_to(rows, call):
    """The answer to one call, and the objects' saved bytes behind it, as the document has it."""
    number, which = call[:2]
    if number == 0:
        me, n, value, coins = call[2:]
        if n not in range(2, 17) or me not in range(n) or value not in (0, 1):
            return [-2], rows
        return [0], {**rows, which: saved_bytes(me, n, [value], coins=coins)}
    if number == 2:
        return [0], {**rows, which: call[3:]}
    saved = rows[which]
    if number == 3:
        most, came = call[2], call[4:]
        if most < 0:
            return [-2], rows
        if not is_right(saved, came):
            return [-3], rows
        behind, sent = told_again(saved, came)
        return ([-7], rows) if len(sent) > most else ([len(sent)] + sent, {**rows, which: behind})
    if number == 4:
        to, of, most = call[2:]
        if to == saved[0] or to not in range(saved[1]) or of not in range(129) or most < 0:
            return [-2], rows
        if of > saved[2]:
            return [-4], rows
        return ([-7] if most < 8 else [8] + letter(to, saved[0], of, saved[16 + of])), rows
    return {1: [0] + saved, 5: [saved[3] - 1 if saved[3] else -4], 6: [saved[2]]}[number], rows


def any_again(chance, saved, which):
    me, n, stage = saved[:3]
    to = chance.choice([chance.randrange(n)] * 6 + [-1, n, 16])
    of = chance.choice([chance.randint(0, stage)] * 4 + [0, stage, stage, stage + 1, stage + 1, 128, 129, -1])
    return again(to, of, chance.choice((PLENTY, 1024, 9, 8, 8, 7, 0, -1)), which)


def any_receive(chance, saved, which):
    came = any_letter(chance, saved)
    if chance.randrange(6) == 0:
        came[chance.randrange(8)] = chance.choice((0, 1, 2, 3, 16, 129, 255))
    most = chance.choice((PLENTY, PLENTY, PLENTY, 8 * saved[1] - 8, 8 * saved[1] - 9, 0, -1))
    return receive(came, most, which)


def any_call(chance, rows, loads_left):
    which = chance.choice((0, 1, 7, 15))
    kind = chance.choices(range(7), (1, 1, 1, 12, 8, 4, 4))[0]
    if which not in rows or kind == 0:
        n = chance.choice((2, 2, 3, 4, 5, 16, chance.randint(1, 17)))
        value = chance.choice((0, 0, 0, 1, 1, 1, 2))
        return begin(chance.randint(0, max(n - 1, 0)), n, value, chance.getrandbits(64), which)
    if kind == 2 and loads_left:
        return load(any_node(chance), which)
    if kind in (2, 3):
        return any_receive(chance, rows[which], which)
    if kind == 4:
        return any_again(chance, rows[which], which)
    return {1: save, 5: tell_answer, 6: tell_stage}[kind](which)


class TogetherTest(unittest.TestCase):
    def test_any_calls_mixed_over_several_objects(self):
        chance = random.Random(2)
        came = {}
        for turn in range(120):
            rows, calls, expected = {}, [], []
            for step in range(chance.randint(1, 200)):
                call = any_call(chance, rows, sum(row[0] == 2 for row in calls) < 5)
                told, rows = answer_to(rows, call)
                calls.append(call)
                expected.append(told)
                sort = (call[0], told[0] if call[0] == 5 else min(told[0], 0))
                came[sort] = came.get(sort, 0) + 1
            self.assertEqual(ask(*calls), expected, f"turn {turn}")
            flat = [number for call in calls for number in call]
            kept = list(flat)
            self.assertEqual(answers(flat), answers(flat))
            self.assertEqual(flat, kept)
        # Every answer and every refusal must have come, or the lists show less than they seem to.
        sorts = {(0, 0), (0, -2), (1, 0), (2, 0), (3, 0), (3, -2), (3, -3), (3, -7)}
        sorts |= {(4, 0), (4, -2), (4, -4), (4, -7), (5, -4), (5, 0), (5, 1), (6, 0)}
        self.assertEqual(set(came), sorts)
        self.assertGreater(min(came.values()), 10)

    def test_any_nodes_and_letters(self):
        chance = random.Random(1)
        for turn in range(1500):
            saved = any_node(chance)
            calls = [load(saved)]
            expected = [[0]]
            for more in range(3):
                came = any_letter(chance, saved)
                calls += [receive(came), save()]
                saved, sent = told_again(saved, came)
                expected += [[len(sent)] + sent, [0] + saved]
            self.assertEqual(ask(*calls), expected, f"turn {turn}")

    def run_all(self, n, seed):
        """All nodes as objects of one desk; letters are lost, late and twice, and f nodes stop."""
        chance = random.Random(seed)
        values = [chance.randint(0, 1) for node in range(n)]
        saved = [saved_bytes(node, n, [values[node]], coins=chance.getrandbits(64)) for node in range(n)]
        stopped = chance.sample(range(n), (n - 1) // 2)
        post = [letter(to, me, 0, values[me]) for me in range(n) for to in range(n) if to != me]
        for step in range(250):
            if not post:
                break
            came = post.pop(chance.randrange(len(post)))
            if came[0] in stopped and step > 20:
                continue
            told = ask(load(saved[came[0]]), receive(came), save())
            again, sent = told_again(saved[came[0]], came)
            self.assertEqual(told, [[0], [len(sent)] + sent, [0] + again])
            saved[came[0]] = again
            post += [sent[place:place + 8] for place in range(0, len(sent), 8)]
            if chance.randrange(4) == 0:
                post.append(came)
        return values, [row[3] - 1 for row in saved if row[3]]

    def test_those_that_answer_answer_alike(self):
        answered = 0
        for n in range(2, 17):
            for seed in range(2):
                values, answers = self.run_all(n, 100 * n + seed)
                answered += len(answers)
                self.assertLessEqual(len(set(answers)), 1)
                self.assertLessEqual(set(answers), set(values))
        self.assertGreater(answered, 20)

    def test_all_of_one_mind_answer_in_the_first_round(self):
        for n in range(2, 17):
            for value in (0, 1):
                # Node 0 hears from all in order; each says the same in both stages.
                calls = [begin(0, n, value)]
                for stage in (0, 1):
                    calls += [receive(letter(0, node, stage, value)) for node in range(1, n)]
                saved = ask(*calls, save())[-1][1:]
                self.assertEqual(saved[2:4], [2, value + 1])


if __name__ == "__main__":
    unittest.main()
