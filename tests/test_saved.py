import unittest

from tests.helper import ALL_COINS, after, ask, begin, last, letter, load, receive, save, saved_bytes


def full_run(coins=0):
    """Two nodes of one mind, to the end."""
    return [begin(0, 2, 1, coins)] + [receive(letter(0, 1, stage, 1)) for stage in range(128)]


class SaveTest(unittest.TestCase):
    def test_just_begun_byte_by_byte(self):
        told = last(begin(2, 5, 1, 0x0102030405060708), save())
        head = [0, 2, 5, 0, 0, 0, 0, 0, 0]
        coins = [8, 7, 6, 5, 4, 3, 2, 1]
        self.assertEqual(told, head + coins + [1] + [0] * 128 + [0] * 7 + [0] * 2048)

    def test_heard_in_its_stage_and_in_later_ones_byte_by_byte(self):
        told = last(
            begin(1, 7, 0),
            receive(letter(1, 6, 0, 0)),
            receive(letter(1, 0, 0, 1)),
            receive(letter(1, 2, 1, 0)),
            receive(letter(1, 3, 1, 1)),
            receive(letter(1, 4, 1, 2)),
            receive(letter(1, 5, 127, 2)),
            save(),
        )
        first = [2, 0, 0, 0, 0, 0, 1] + [0] * 9
        second = [0, 0, 1, 2, 3, 0, 0] + [0] * 9
        end = [0, 0, 0, 0, 0, 3, 0] + [0] * 9
        head = [0, 1, 7, 0, 0, 0, 0, 0, 0]
        self.assertEqual(told, head + [0] * 8 + [0] * 136 + first + second + [0] * 16 * 125 + end)

    def test_with_an_answer_byte_by_byte(self):
        for value in (0, 1):
            told = last(
                begin(0, 2, value, 1),
                receive(letter(0, 1, 0, value)),
                receive(letter(0, 1, 1, value)),
                save(),
            )
            head = [0, 0, 2, 2, value + 1, 0, 0, 0, 0]
            words = [value, value, value] + [0] * 126
            self.assertEqual(told, head + [1] + [0] * 7 + words + [0] * 7 + [0] * 2048)

    def test_at_stage_128_byte_by_byte(self):
        told = last(*full_run(ALL_COINS), save())
        self.assertEqual(told, [0, 0, 2, 128, 2, 0, 0, 0, 0] + [255] * 8 + [1] * 129 + [0] * 7 + [0] * 2048)

    def test_what_was_heard_in_a_stage_is_not_saved_once_it_is_left(self):
        told = after(
            begin(0, 3, 1),
            receive(letter(0, 2, 2, 1)),
            receive(letter(0, 1, 0, 1)),
        )
        self.assertEqual(told, saved_bytes(0, 3, [1, 1], heard={(2, 2): 1}))

    def test_saving_changes_nothing(self):
        told = ask(begin(0, 3, 1), save(), save(), receive(letter(0, 1, 2, 1)), save(), save())
        self.assertEqual(told[1], told[2])
        self.assertEqual(told[4], told[5])
        self.assertNotEqual(told[2], told[4])


class LoadTest(unittest.TestCase):
    def check_right(self, saved):
        # Once into a new object, once into another that is a node already.
        told = ask(load(saved), save(), begin(1, 3, 1, 7, 15), load(saved, 15), save(15))
        self.assertEqual(told, [[0], [0] + saved, [0], [0], [0] + saved])

    def check_refused(self, saved):
        self.assertEqual(last(load(saved)), [-3])
        node = saved_bytes(1, 4, [1, 2, 1], 1, 1000, {(2, 3): 1, (5, 0): 2})
        told = ask(load(node), load(saved), save(), load(node, 3), load(saved, 3), save(3))
        self.assertEqual(told, [[0], [-3], [0] + node, [0], [-3], [0] + node])

    def check_broken(self, saved, changes):
        """Right as it stands, and refused with the changes, a dict of places and bytes."""
        self.check_right(saved)
        broken = list(saved)
        for place, number in changes.items():
            broken[place] = number
        with self.subTest(changes=changes):
            self.check_refused(broken)

    def test_what_was_saved_is_loaded_and_saved_the_same(self):
        heard = [receive(letter(1, 6, 0, 0)), receive(letter(1, 2, 1, 2)), receive(letter(1, 5, 127, 2))]
        self.check_right(after(begin(1, 7, 0, 12345)))
        self.check_right(after(begin(1, 7, 0, 12345), *heard))
        self.check_right(after(*full_run(1)[:4]))
        self.check_right(after(*full_run(ALL_COINS)))

    def test_right_at_the_edges(self):
        self.check_right(saved_bytes(0, 2, [0]))
        self.check_right(saved_bytes(1, 2, [1], 0))
        self.check_right(saved_bytes(15, 16, [1], 1, ALL_COINS))
        self.check_right(saved_bytes(0, 3, [1, 2] * 64 + [1], 0))
        self.check_right(saved_bytes(0, 3, [0, 2] * 64))

    def test_everybody_else_may_be_heard_in_each_later_stage(self):
        heard = {(stage, sender): 1 for stage in range(5, 128) for sender in range(16) if sender != 6}
        self.check_right(saved_bytes(6, 16, [0, 1, 0, 2, 1], heard=heard))

    def test_the_words_that_may_be_heard(self):
        for stage in (1, 2, 126, 127):
            for word in (0, 1, 2)[:2 + stage % 2]:
                self.check_right(saved_bytes(0, 3, [0], heard={(stage, 1): word}))

    def test_a_loaded_node_goes_on_from_where_it_was(self):
        so_far = [begin(0, 3, 1, 1), receive(letter(0, 2, 1, 2)), receive(letter(0, 1, 3, 1))]
        saved = after(*so_far)
        news = receive(letter(0, 1, 0, 0))
        self.assertEqual(ask(*so_far, news, save())[-2:], ask(load(saved), news, save())[-2:])
        self.assertEqual(last(load(saved), receive(letter(0, 1, 0, 0))), [32] + [
            1, 0, 1, 2, 0, 0, 0, 0, 2, 0, 1, 2, 0, 0, 0, 0, 1, 0, 2, 1, 0, 0, 0, 0, 2, 0, 2, 1, 0, 0, 0, 0])

    def test_each_coin_comes_back_in_its_place(self):
        for place in range(64):
            saved = saved_bytes(0, 2, [0], coins=1 << place)
            self.assertEqual(after(load(saved)), saved)

    def test_n_is_not_right(self):
        for n in (0, 1, 17, 255):
            self.check_broken(saved_bytes(0, 2, [0]), {1: n})

    def test_me_is_not_right(self):
        for me in (2, 3, 255):
            self.check_broken(saved_bytes(0, 2, [0]), {0: me})
        self.check_broken(saved_bytes(15, 16, [0]), {0: 16})

    def test_the_stage_is_not_right(self):
        for stage in (129, 130, 255):
            self.check_broken(saved_bytes(0, 2, [0] * 129), {2: stage})

    def test_the_answer_is_not_right(self):
        for answer in (3, 4, 255):
            self.check_broken(saved_bytes(0, 2, [0, 0, 0], 0), {3: answer})

    def test_the_four_are_not_0(self):
        for place in range(4, 8):
            self.check_broken(saved_bytes(0, 2, [0]), {place: 1})

    def test_the_seven_are_not_0(self):
        for place in range(145, 152):
            self.check_broken(saved_bytes(0, 2, [0]), {place: 1})
            self.check_broken(saved_bytes(0, 2, [0] * 129), {place: 1})

    def test_an_own_word_is_not_of_its_stage(self):
        saved = saved_bytes(0, 2, [1, 2] * 64 + [1])
        for stage in range(129):
            for word in (2 + stage % 2, 255):
                self.check_broken(saved, {16 + stage: word})

    def test_a_word_of_a_stage_not_come_to(self):
        for place in (19, 20, 143, 144):
            self.check_broken(saved_bytes(0, 2, [1, 1, 1]), {place: 1})

    def test_a_heard_word_is_not_of_its_stage(self):
        for stage in (2, 3, 4, 5, 126, 127):
            saved = saved_bytes(0, 5, [1, 1, 1], heard={(stage, 3): 1})
            for told in (3 + stage % 2, 255):
                self.check_broken(saved, {152 + 16 * stage + 3: told})

    def test_heard_in_a_stage_before_the_nodes(self):
        saved = saved_bytes(0, 5, [1, 1, 1])
        for stage in (0, 1):
            self.check_broken(saved, {152 + 16 * stage + 1: 1})

    def test_heard_at_stage_128(self):
        saved = saved_bytes(0, 5, [1] * 129)
        for stage in (0, 126, 127):
            self.check_broken(saved, {152 + 16 * stage + 1: 1})

    def test_heard_from_itself(self):
        for stage in (0, 1, 127):
            self.check_broken(saved_bytes(2, 5, [1]), {152 + 16 * stage + 2: 1})

    def test_heard_from_no_node(self):
        for stage in (0, 1, 127):
            for sender in (5, 6, 15):
                self.check_broken(saved_bytes(2, 5, [1]), {152 + 16 * stage + sender: 1})

    def test_too_many_heard_in_its_stage(self):
        # n: how many others are so many that the node would have gone on.
        enough = {2: 1, 3: 1, 4: 2, 5: 2, 6: 3, 7: 3, 8: 4, 9: 4, 10: 5, 11: 5, 12: 6, 13: 6, 14: 7, 15: 7, 16: 8}
        for n, others in enough.items():
            for stage in (0, 1, 127):
                heard = {(stage, sender): 0 for sender in range(1, others)}
                saved = saved_bytes(0, n, [0] * (stage + 1), heard=heard)
                self.check_broken(saved, {152 + 16 * stage + others: 1})

    def test_all_others_heard_in_its_stage(self):
        heard = {(1, sender): 0 for sender in range(1, 16)}
        self.check_refused(saved_bytes(0, 16, [0, 0], heard=heard))

    def test_a_refused_load_does_not_hinder_a_later_begin(self):
        refused = load(saved_bytes(2, 2, [0]))
        self.assertEqual(ask(refused, begin(0, 2, 1), save()), [[-3], [0], [0] + saved_bytes(0, 2, [1])])


if __name__ == "__main__":
    unittest.main()
