"""Nodes that talk to one another, against a second telling of the rules that works on saved bytes."""

import random
import unittest

from tests.helper import ask, begin, letter, load, receive, save, saved_bytes


def told_again(saved, came):
    """The bytes behind a right letter, and what is sent, as the document has it."""
    saved = list(saved)
    me, n, stage = saved[:3]
    f = (n - 1) // 2
    sender, of, word = came[1:4]
    sent = []
    if of < stage or of == 128 or saved[152 + 16 * of + sender]:
        return saved, sent
    saved[152 + 16 * of + sender] = word + 1
    while saved[2] < 128:
        stage = saved[2]
        row = saved[152 + 16 * stage:168 + 16 * stage]
        says = {0: 0, 1: 0, 2: 0}
        says[saved[16 + stage]] += 1
        for heard in row:
            if heard:
                says[heard - 1] += 1
        if sum(says.values()) < n - f:
            break
        if stage % 2 == 0:
            new = 0 if says[0] > n / 2 else 1 if says[1] > n / 2 else 2
        else:
            r = stage // 2
            new = 0 if says[0] else 1 if says[1] else saved[8 + r // 8] >> r % 8 & 1
            if not saved[3]:
                saved[3] = 1 if says[0] >= f + 1 else 2 if says[1] >= f + 1 else 0
        saved[152 + 16 * stage:168 + 16 * stage] = [0] * 16
        saved[2] = stage + 1
        saved[17 + stage] = new
        for to in range(n):
            if to != me:
                sent += letter(to, me, stage + 1, new)
    return saved, sent


def any_node(chance):
    n = chance.randint(2, 16)
    me = chance.randrange(n)
    stage = chance.choice((0, 0, 1, 2, 3, 64, 125, 126, 127, 128))
    words = [chance.randint(0, 1 + of % 2) for of in range(stage + 1)]
    others = [node for node in range(n) if node != me]
    heard = {}
    for of in range(stage, min(stage + chance.randint(0, 9), 128)):
        most = n - (n - 1) // 2 - 2 if of == stage else n - 1
        for sender in chance.sample(others, chance.choice((most, chance.randint(0, most)))):
            heard[of, sender] = chance.randint(0, 1 + of % 2)
    answer = chance.choice((None, None, 0, 1))
    return saved_bytes(me, n, words, answer, chance.getrandbits(64), heard)


def any_letter(chance, saved):
    me, n, stage = saved[:3]
    of = max(0, min(128, stage + chance.choice((-1, 0, 0, 0, 0, 1, 2))))
    sender = chance.choice([node for node in range(n) if node != me])
    return letter(me, sender, of, chance.randint(0, 1 + of % 2))


class TogetherTest(unittest.TestCase):
    def test_any_nodes_and_letters(self):
        chance = random.Random(1)
        for turn in range(1500):
            saved = any_node(chance)
            calls = [load(saved)]
            expected = [[0]]
            for more in range(3):
                came = any_letter(chance, saved)
                calls += [receive(came), save()]
                saved, sent = told_again(saved, came)
                expected += [[len(sent)] + sent, [0] + saved]
            self.assertEqual(ask(*calls), expected, f"turn {turn}")

    def run_all(self, n, seed):
        """All nodes as objects of one desk; letters are lost, late and twice, and f nodes stop."""
        chance = random.Random(seed)
        values = [chance.randint(0, 1) for node in range(n)]
        saved = [saved_bytes(node, n, [values[node]], coins=chance.getrandbits(64)) for node in range(n)]
        stopped = chance.sample(range(n), (n - 1) // 2)
        post = [letter(to, me, 0, values[me]) for me in range(n) for to in range(n) if to != me]
        for step in range(250):
            if not post:
                break
            came = post.pop(chance.randrange(len(post)))
            if came[0] in stopped and step > 20:
                continue
            told = ask(load(saved[came[0]]), receive(came), save())
            again, sent = told_again(saved[came[0]], came)
            self.assertEqual(told, [[0], [len(sent)] + sent, [0] + again])
            saved[came[0]] = again
            post += [sent[place:place + 8] for place in range(0, len(sent), 8)]
            if chance.randrange(4) == 0:
                post.append(came)
        return values, [row[3] - 1 for row in saved if row[3]]

    def test_those_that_answer_answer_alike(self):
        answered = 0
        for n in range(2, 17):
            for seed in range(2):
                values, answers = self.run_all(n, 100 * n + seed)
                answered += len(answers)
                self.assertLessEqual(len(set(answers)), 1)
                self.assertLessEqual(set(answers), set(values))
        self.assertGreater(answered, 20)

    def test_all_of_one_mind_answer_in_the_first_round(self):
        for n in range(2, 17):
            for value in (0, 1):
                # Node 0 hears from all in order; each says the same in both stages.
                calls = [begin(0, n, value)]
                for stage in (0, 1):
                    calls += [receive(letter(0, node, stage, value)) for node in range(1, n)]
                saved = ask(*calls, save())[-1][1:]
                self.assertEqual(saved[2:4], [2, value + 1])


if __name__ == "__main__":
    unittest.main()
