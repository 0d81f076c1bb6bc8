"""The time and the rounds: ticks and turns."""

import unittest

from tests.helper import (
    SHOW, again, air, ask, begin, book, client, disk, kill, keep, last, mind, notes, save, shown, sixty, take, ticks,
    told, turns, way,
)


class Ticks(unittest.TestCase):
    def test_the_time_is_so_much_more(self):
        self.assertEqual(told(ticks(3), ticks(0), ticks(40), begin(), ticks(1)), [[3], [3], [43], [0], [44]])

    def test_the_time_is_never_set_back(self):
        line = [begin(), ticks(5), kill(1), ticks(6), begin(), kill(3), mind(), ticks(7)]
        self.assertEqual(last(*line), [18])

    def test_a_hundred_times_the_most(self):
        self.assertEqual(last(*[ticks(10000)] * 100), [1000000])

    def test_nothing_else_is_changed(self):
        line = [begin(), ask(1, 3), take(1), keep(1), ask(2, 4), kill(4), mind(), kill(3)]
        self.assertEqual(shown(*line, ticks(10000))[:-1], shown(*line)[:-1])


class Turns(unittest.TestCase):
    def test_a_request_round_by_round(self):
        line = [begin(), ask(2, 4, 0, 3, 7)]
        airs = [last(*line, turns(n), air()) for n in range(5)]
        self.assertEqual(airs, [
            [1, 0, 2, 4, 1, 0, 3, 7], [1, 1, 4, 1, 1, 2, 1, 0, 3, 7], [1, 2, 4, 1, 2, 1, 7], [1, 3, 2, 1, 7], [0],
        ])
        self.assertEqual([last(*line, turns(n)) for n in range(6)], [[1], [1], [1], [1], [0], [0]])
        self.assertEqual([last(*line, turns(n), client(2)) for n in (3, 4)], [[1, 1, 0], [1, 0, 1, 7]])

    def test_no_rounds_change_nothing(self):
        for line in ([], [ask(1, 3)], [begin(), ask(1, 3), take(1), take(1)], [begin()] + sixty()):
            self.assertEqual(shown(*line, turns(0)), shown(*line))
        self.assertEqual(last(begin(), ask(1, 3), ask(2, 3), turns(0)), [2])

    def test_rounds_add_up(self):
        line = [begin(), ask(1, 3), ask(2, 4, 0, 1, 6), again(1, 4), ask(3, 3, 2, 0, 5), kill(3), mind()]
        for n in range(20):
            self.assertEqual(shown(*line, turns(n)), shown(*line, *[turns(1)] * n))
            self.assertEqual(shown(*line, turns(n), turns(20 - n)), shown(*line, turns(20)))

    def test_a_round_is_taking_the_first_letter_and_saving(self):
        line = [begin(), ask(1, 3), ask(2, 4, 0, 1, 6), again(1, 4), keep(2), ask(3, 3)]
        for n in range(12):
            self.assertEqual(shown(*line, turns(n)), shown(*line, *[take(1), save()] * n))

    def test_the_letter_that_was_sent_first_arrives(self):
        line = [begin(), ask(1, 3), ask(2, 4), take(2), turns(1)]
        self.assertEqual(last(*line, air()), [2, 1, 4, 1, 1, 2, 1, 0, 0, 5, 1, 3, 1, 1, 1, 1, 0, 0, 5])

    def test_a_letter_that_was_kept_is_still_the_first(self):
        line = [begin(), ask(1, 3), keep(1), turns(1)]
        self.assertEqual(last(*line, air()), [2] + [1, 3, 1, 1, 1, 1, 0, 0, 5] * 2)

    def test_it_saves_in_the_round_in_which_it_is_done(self):
        line = [begin(), ask(1, 3), take(1), turns(1)]
        self.assertEqual(told(*line, book(), disk())[-3:],
                         [[1], [0, 5, 0, 0, 0, 1, 1, 1, 0, 0, 5, 5], [5, 0, 0, 0, 1, 1, 1, 0, 0, 5, 5]])

    def test_it_saves_with_no_letter_on_its_way(self):
        line = [begin(), ask(1, 3), take(1), take(1)]
        self.assertEqual(told(*line, book(), disk())[-2:],
                         [[1, 5, 0, 0, 0, 1, 1, 1, 0, 0, 5, 5], [0, 0, 0, 0, 0]])
        self.assertEqual(told(*line, turns(1), air(), disk())[-3:],
                         [[1], [1, 2, 3, 1, 1, 1, 5], [5, 0, 0, 0, 1, 1, 1, 0, 0, 5, 5]])

    def test_what_arrives_is_sent_ahead_of_what_saving_sends(self):
        line = [begin(), ask(1, 3), take(1), take(1), ask(2, 4), turns(1)]
        self.assertEqual(last(*line, air()), [2, 1, 4, 1, 1, 2, 1, 0, 0, 5, 2, 3, 1, 1, 1, 5])

    def test_the_store_does_not_live(self):
        line = [begin()] + way(1, 3) + [ask(1, 3), take(1), take(1), ask(2, 4), kill(2)]
        self.assertEqual(told(*line, turns(3), disk(), book())[-3:],
                         [[0], [5, 0, 0, 0, 1, 1, 1, 0, 0, 5, 5],
                          [0, 10, 0, 0, 0, 2, 1, 1, 0, 0, 5, 5, 1, 2, 0, 0, 5, 10]])

    def test_a_reply_and_an_answer_arrive_while_the_store_does_not_live(self):
        line = [begin(), ask(1, 3), take(1), take(1), save(), kill(2), turns(2), client(1)]
        self.assertEqual(told(*line)[-2:], [[0], [1, 0, 1, 5]])

    def test_all_is_down(self):
        self.assertEqual(told(ask(1, 3), ask(2, 4), ask(3, 4), turns(2), air())[-2:], [[1], [1, 0, 3, 4, 1, 0, 0, 5]])
        line = [begin(), ask(1, 3), take(1), take(1), kill(1), turns(5), disk()]
        self.assertEqual(told(*line)[-2:], [[0], [0, 0, 0, 0, 0]])

    def test_nobody_is_minded_or_begun(self):
        line = [begin(), kill(3), kill(2), turns(200), notes()]
        self.assertEqual(last(*line), [2, 3, 2, 0])
        self.assertEqual(shown(turns(200)), told(*SHOW))

    def test_sixty_letters_and_more(self):
        # Each of the 60 arrives in four sorts, one behind another: 240 rounds.
        line = [begin()] + sixty()
        self.assertEqual(last(*line, turns(200)), [40])
        self.assertEqual(last(*line, turns(200), turns(39)), [1])
        self.assertEqual(last(*line, turns(200), turns(40)), [0])
        self.assertEqual(last(*line, turns(200), turns(200), client(1)), [1, 0, 1, 5])

    def test_a_hundred_times_the_most(self):
        self.assertEqual(told(begin(), ask(1, 3), *[turns(200)] * 97, client(1))[-2:], [[0], [1, 0, 1, 5]])


if __name__ == "__main__":
    unittest.main()
