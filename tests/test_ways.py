"""Ordinary use: the ways of requests, by way of the four sorts of letters."""

import unittest

from tests.helper import (
    again, ask, begin, house_after, keep, kill, last, lose, mind, save, take, told, way,
)


class OneRequest(unittest.TestCase):
    def test_from_ask_to_the_client_that_hears(self):
        line = [begin()] + way(2, 4, 0, 3, 7) + [again(2, 4), lose(1)]
        self.assertEqual(told(*line), [
            [0],
            [1],
            [0, 2, 4, 1, 0, 3, 7],
            [1, 4, 1, 1, 2, 1, 0, 3, 7],
            [1],
            [2, 4, 1, 2, 1, 7],
            [3, 2, 1, 7],
            [-8],
            [-5],
        ])

    def test_what_is_kept_of_it(self):
        house = house_after(begin(), *way(2, 4, 0, 3, 7))
        self.assertEqual(house.clients[2].heard, [7])
        self.assertFalse(house.clients[2].waits)
        self.assertEqual(house.book.accounts, [0, 0, 0, 7])
        self.assertEqual(house.book.done, [(2, 1, 0, 3, 7, 7)])
        self.assertEqual(house.disk.done, house.book.done)

    def test_nothing_is_answered_ahead_of_saving(self):
        self.assertEqual(last(begin(), ask(1, 3), take(1), take(1), take(1)), [-5])

    def test_requests_are_numbered_for_each_client(self):
        line = [begin()] + way(1, 3) + way(1, 4) + way(2, 3) + [ask(1, 3), ask(2, 4), ask(3, 3)]
        self.assertEqual(told(*line)[-3:], [[3], [2], [1]])

    def test_a_client_waits_till_it_hears(self):
        line = [begin(), ask(1, 3), take(1), take(1), save(), take(1)]
        self.assertEqual(last(*line, ask(1, 3)), [-8])
        self.assertEqual(last(*line, take(1), ask(1, 3)), [2])

    def test_asking_needs_nobody_who_lives(self):
        self.assertEqual(told(ask(1, 3, 1, 2, 9), again(1, 4), lose(2), lose(1)),
                         [[1], [1], [0, 1, 4, 1, 1, 2, 9], [0, 1, 3, 1, 1, 2, 9]])


class WhatIsAsked(unittest.TestCase):
    def heard(self, *asked):
        line = [begin()]
        for one in asked:
            line.extend(way(1, 3, *one))
        return house_after(*line).clients[1].heard

    def test_more(self):
        self.assertEqual(self.heard((0, 1, 5), (0, 1, 1000), (0, 2, 3), (0, 1, 0)), [5, 1005, 3, 1005])

    def test_what_it_has(self):
        self.assertEqual(self.heard((1, 0, 1000), (0, 0, 8), (1, 0, 1), (1, 0, 0), (1, 3, 0)), [0, 8, 8, 8, 0])

    def test_less_if_it_has_so_much(self):
        self.assertEqual(self.heard((0, 2, 10), (2, 2, 11), (1, 2, 0), (2, 2, 10), (1, 2, 0), (2, 2, 1), (2, 2, 0)),
                         [10, 0, 10, 1, 0, 0, 1])

    def test_a_book_tells_all_that_was_done(self):
        line = [begin()] + way(1, 3, 0, 2, 10) + way(3, 4, 2, 2, 4) + way(1, 4, 2, 2, 7) + way(2, 3, 1, 2, 6)
        house = house_after(*line)
        self.assertEqual(house.disk.done, [
            (1, 1, 0, 2, 10, 10), (3, 1, 2, 2, 4, 1), (1, 2, 2, 2, 7, 0), (2, 1, 1, 2, 6, 6),
        ])
        self.assertEqual(house.disk.accounts, [0, 0, 6, 0])


class TheAir(unittest.TestCase):
    def test_letters_stand_in_the_order_in_which_they_were_sent(self):
        line = [ask(1, 3), ask(2, 4), ask(3, 3)]
        self.assertEqual([letter[1] for letter in told(*line, take(2), take(2), take(1))[3:]], [2, 3, 1])
        self.assertEqual([letter[1] for letter in told(*line, lose(1), lose(1), lose(1))[3:]], [1, 2, 3])

    def test_what_arriving_sends_stands_last(self):
        line = [begin(), ask(1, 3), ask(2, 4), take(1)]
        self.assertEqual(last(*line, lose(2)), [1, 3, 1, 1, 1, 1, 0, 0, 5])
        self.assertEqual(last(*line, lose(1)), [0, 2, 4, 1, 0, 0, 5])

    def test_again_goes_to_the_other_server_as_it_was_asked(self):
        line = [begin(), ask(1, 3, 2, 1, 9), again(1, 4), lose(1)]
        self.assertEqual(told(*line, take(1), take(1))[2:], [
            [1], [0, 1, 3, 1, 2, 1, 9], [0, 1, 4, 1, 2, 1, 9], [1, 4, 1, 1, 1, 1, 2, 1, 9],
        ])

    def test_again_is_the_last_request(self):
        line = [begin()] + way(1, 3, 0, 0, 5) + [ask(1, 3, 1, 2, 0), again(1, 4)]
        self.assertEqual(told(*line, lose(2))[-2:], [[2], [0, 1, 4, 2, 1, 2, 0]])

    def test_a_lost_letter_does_nothing(self):
        line = [begin(), ask(1, 3), lose(1)]
        self.assertEqual(told(*line, take(1), save(), again(1, 3), take(1))[2:],
                         [[0, 1, 3, 1, 0, 0, 5], [-5], [0], [1], [0, 1, 3, 1, 0, 0, 5]])

    def test_a_lost_question_is_not_done(self):
        self.assertEqual(house_after(begin(), ask(1, 3), take(1), lose(1)).book.done, [])

    def test_a_lost_answer_is_not_heard(self):
        line = [begin()] + way(1, 3)[:-1] + [lose(1)]
        self.assertEqual(last(*line), [3, 1, 1, 5])
        self.assertEqual(last(*line, again(1, 3)), [1])


class Twice(unittest.TestCase):
    def test_a_request_that_is_kept_is_asked_twice_and_done_once(self):
        line = [begin(), ask(1, 3), keep(1), take(1), take(1), take(1), save()]
        self.assertEqual(told(*line, take(1), take(1), take(1), take(1), take(1))[2:], [
            [0, 1, 3, 1, 0, 0, 5], [0, 1, 3, 1, 0, 0, 5],
            [1, 3, 1, 1, 1, 1, 0, 0, 5], [1, 3, 1, 1, 1, 1, 0, 0, 5],
            [2],
            [2, 3, 1, 1, 1, 5], [2, 3, 1, 1, 1, 5], [3, 1, 1, 5], [3, 1, 1, 5], [-5],
        ])
        self.assertEqual(house_after(*line).disk.done, [(1, 1, 0, 0, 5, 5)])

    def test_a_question_that_is_kept_waits_twice(self):
        line = [begin(), ask(1, 3), take(1), keep(1), take(1)]
        self.assertEqual(last(*line, save()), [2])
        self.assertEqual(house_after(*line).book.accounts, [5, 0, 0, 0])

    def test_a_reply_that_is_kept_is_answered_twice(self):
        line = [begin(), ask(1, 3), take(1), take(1), save(), keep(1), take(1)]
        self.assertEqual(told(*line, take(1), take(1), take(1))[-3:], [[3, 1, 1, 5], [3, 1, 1, 5], [-5]])

    def test_an_answer_that_is_kept_is_heard_once(self):
        line = [begin()] + way(1, 3)[:-1] + [keep(1)]
        self.assertEqual(told(*line, lose(1))[-2:], [[3, 1, 1, 5], [3, 1, 1, 5]])
        self.assertEqual(house_after(*line, take(1)).clients[1].heard, [5])

    def test_an_old_answer_is_not_heard_as_the_next_one(self):
        line = [begin()] + way(1, 3)[:-1] + [keep(1), ask(1, 3), take(1)]
        self.assertEqual(told(*line)[-1], [3, 1, 1, 5])
        self.assertEqual(last(*line, ask(1, 3)), [-8])
        self.assertEqual(house_after(*line).clients[1].heard, [5])

    def test_an_answer_is_for_its_own_client_alone(self):
        house = house_after(begin(), ask(2, 3), *way(1, 3)[:1], take(2), take(2), save(), take(2), take(2))
        self.assertEqual([house.clients[c].heard for c in (1, 2, 3)], [[5], [], []])
        self.assertTrue(house.clients[2].waits)


class TheStoreIsAsked(unittest.TestCase):
    def test_done_on_the_disk_and_the_last_one(self):
        line = [begin(), ask(1, 3), again(1, 4), take(1), take(2), save(), take(1), take(2)]
        self.assertEqual(told(*line, lose(2))[-2:], [[1, 4, 1, 1, 1, 1, 0, 0, 5], [2, 4, 1, 1, 1, 5]])
        self.assertEqual(last(*line, save()), [0])

    def test_done_but_not_saved(self):
        line = [begin(), ask(1, 3), again(1, 4), take(1), take(1), take(1), take(1)]
        self.assertEqual(last(*line, lose(1)), [-5])
        self.assertEqual(told(*line, save(), lose(1), lose(1))[-3:],
                         [[2], [2, 3, 1, 1, 1, 5], [2, 4, 1, 1, 1, 5]])

    def test_older_than_the_last_one_on_the_disk(self):
        line = [begin(), ask(1, 3), keep(1), take(2), save(), take(2), take(2)]
        line = line + [ask(1, 4), take(2), take(2), save(), lose(2)]
        self.assertEqual(told(*line)[-2:], [[1], [2, 4, 1, 1, 2, 10]])
        old = line + [take(1), take(1)]
        self.assertEqual(last(*old), [1, 3, 1, 1, 1, 1, 0, 0, 5])
        self.assertEqual(told(*old, take(1), save())[-2:], [[-5], [0]])

    def test_on_the_disk_but_older_than_the_last_one_in_the_house(self):
        line = [begin(), ask(1, 3), keep(1), take(2), save(), take(2), take(2)]
        line = line + [ask(1, 4), take(2), take(2)]
        old = line + [take(1), take(1)]
        self.assertEqual(last(*old), [1, 3, 1, 1, 1, 1, 0, 0, 5])
        self.assertEqual(told(*old, lose(1), save(), lose(1))[-3:], [[-5], [1], [2, 4, 1, 1, 2, 10]])

    def test_clients_have_lasts_of_their_own(self):
        line = [begin()] + way(1, 3) + way(1, 3) + [ask(2, 3, 0, 1, 4), take(1), take(1)]
        self.assertEqual(told(*line, save(), lose(1))[-2:], [[1], [2, 3, 1, 2, 1, 4]])

    def test_a_gap_is_nothing(self):
        # No line of calls leads here: a client asks on only behind an answer, and that is on the disk.
        house = house_after(begin(), ask(1, 3))
        house.letters[0] = (1, 3, 1, 1, 1, 2, 0, 0, 5)
        house.letter_arrives(house.letters.pop())
        self.assertEqual((house.book.done, house.waiting, house.letters), ([], [], []))

    def test_who_waits_is_answered_in_order(self):
        line = [begin(), ask(3, 4), ask(1, 3), ask(2, 4), take(2), take(2), take(1)]
        line = line + [take(3), take(1), take(1), save()]
        self.assertEqual(told(*line, lose(1), lose(1), lose(1))[-4:],
                         [[3], [2, 4, 1, 3, 1, 5], [2, 3, 1, 1, 1, 10], [2, 4, 1, 2, 1, 15]])

    def test_saving_twice_sends_once(self):
        self.assertEqual(told(begin(), ask(1, 3), take(1), take(1), save(), save())[-2:], [[1], [0]])


class SomebodyElse(unittest.TestCase):
    """Letters that come to a process in another life, or to one that doesn't live."""

    def test_a_request_comes_to_a_server_that_is_dead(self):
        self.assertEqual(told(begin(), ask(1, 3), kill(3), take(1), take(1))[-2:], [[0, 1, 3, 1, 0, 0, 5], [-5]])

    def test_a_request_comes_when_the_store_is_dead(self):
        self.assertEqual(told(begin(), ask(1, 3), kill(2), take(1), take(1))[-2:], [[0, 1, 3, 1, 0, 0, 5], [-5]])

    def test_a_request_comes_when_the_other_server_is_dead(self):
        self.assertEqual(last(begin(), ask(1, 3), kill(4), take(1), take(1)), [1, 3, 1, 1, 1, 1, 0, 0, 5])

    def test_a_request_comes_when_all_is_down(self):
        self.assertEqual(last(ask(1, 3), take(1), take(1)), [-5])

    def test_a_request_comes_to_whoever_lives_now(self):
        self.assertEqual(last(begin(), ask(1, 3), kill(3), mind(), take(1), take(1)), [1, 3, 2, 1, 1, 1, 0, 0, 5])
        self.assertEqual(last(begin(), ask(1, 3), kill(2), mind(), take(1), take(1)), [1, 3, 1, 2, 1, 1, 0, 0, 5])
        self.assertEqual(last(begin(), ask(1, 4), kill(3), mind(), take(1), take(1)), [1, 4, 1, 1, 1, 1, 0, 0, 5])

    def test_a_question_comes_to_a_store_that_is_dead(self):
        house = house_after(begin(), ask(1, 3), take(1), kill(2), take(1))
        self.assertEqual((house.book.done, house.waiting, house.letters), ([], [], []))

    def test_a_question_comes_to_a_store_in_another_life(self):
        line = [begin(), ask(1, 3), take(1), kill(2), mind(), take(1)]
        self.assertEqual(last(*line), [1, 3, 1, 1, 1, 1, 0, 0, 5])
        self.assertEqual(last(*line, save()), [0])
        self.assertEqual(house_after(*line).book.done, [])

    def test_a_question_of_a_server_that_is_dead_is_done(self):
        line = [begin(), ask(1, 3), take(1), kill(3), take(1), save()]
        self.assertEqual(last(*line), [1])
        self.assertEqual(house_after(*line).disk.done, [(1, 1, 0, 0, 5, 5)])

    def test_a_reply_comes_to_a_server_that_is_dead(self):
        line = [begin(), ask(1, 3), take(1), take(1), save(), kill(3), take(1)]
        self.assertEqual(told(*line, take(1))[-2:], [[2, 3, 1, 1, 1, 5], [-5]])

    def test_a_reply_comes_to_a_server_in_another_life(self):
        line = [begin(), ask(1, 3), take(1), take(1), save(), kill(3), mind(), take(1)]
        self.assertEqual(told(*line, take(1))[-2:], [[2, 3, 1, 1, 1, 5], [-5]])

    def test_a_reply_goes_to_the_life_that_asked(self):
        line = [begin(), ask(1, 3), take(1), kill(3), mind(), take(1), save()]
        self.assertEqual(told(*line, take(1), take(1))[-2:], [[2, 3, 1, 1, 1, 5], [-5]])

    def test_a_reply_needs_no_store(self):
        line = [begin(), ask(1, 3), take(1), take(1), save(), kill(2), take(1)]
        self.assertEqual(last(*line, take(1)), [3, 1, 1, 5])

    def test_an_answer_needs_nobody(self):
        line = [begin(), ask(1, 3), take(1), take(1), save(), take(1), kill(1), take(1)]
        self.assertEqual(house_after(*line).clients[1].heard, [5])


if __name__ == "__main__":
    unittest.main()
