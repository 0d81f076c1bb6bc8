"""Deaths, the keeper's minding and what's begun again."""

import unittest

from tests.helper import (
    again, ask, begin, house_after, keep, kill, last, mind, notes, process, save, take, ticks, told, turns, way,
)


class TheKeeper(unittest.TestCase):
    def test_all_is_down(self):
        line = [begin(), kill(1)]
        self.assertEqual(told(*line, kill(1), kill(2), kill(3), kill(4), save(), mind())[1:],
                         [[1], [-8], [-8], [-8], [-8], [-8], [-5]])

    def test_nothing_of_the_house_stays(self):
        line = [begin(), ask(1, 3), take(1), keep(1), kill(4), mind(), kill(3), kill(1)]
        house = house_after(*line)
        self.assertEqual((house.waiting, house.noted, house.times), ([], [], []))
        self.assertEqual((house.book.accounts, house.book.done), ([0, 0, 0, 0], []))
        self.assertEqual(len(house.letters), 1)
        self.assertTrue(house.clients[1].waits)

    def test_begin_takes_the_book_of_the_disk(self):
        saved = [begin()] + way(1, 3, 0, 0, 5)
        line = saved + [ask(1, 3, 0, 0, 8), take(1), take(1), kill(1), begin()]
        self.assertEqual(told(*line, save())[-3:], [[1], [1], [0]])
        house = house_after(*line)
        self.assertEqual(house.book.done, [(1, 1, 0, 0, 5, 5)])
        self.assertEqual(house.book.accounts, [5, 0, 0, 0])

    def test_what_was_not_saved_is_done_anew(self):
        line = [begin()] + way(1, 3, 0, 0, 5) + [ask(1, 3, 0, 0, 8), take(1), take(1), kill(1), begin()]
        line = line + [again(1, 4), take(1), take(1), save()]
        self.assertEqual(told(*line, take(1), take(1))[-2:], [[2, 4, 2, 1, 2, 13], [3, 1, 2, 13]])

    def test_the_disk_is_not_changed_ahead_of_saving(self):
        house = house_after(begin(), *way(1, 3, 0, 0, 5), ask(1, 3, 0, 0, 8), take(1), take(1))
        self.assertEqual((house.disk.done, house.disk.accounts), ([(1, 1, 0, 0, 5, 5)], [5, 0, 0, 0]))
        house = house_after(begin(), *way(1, 3), kill(1), begin(), ask(1, 3), take(1), take(1))
        self.assertEqual((house.disk.done, house.disk.accounts), ([(1, 1, 0, 0, 5, 5)], [5, 0, 0, 0]))

    def test_all_four_are_in_their_next_life(self):
        house = house_after(begin())
        self.assertEqual(house.lives, {1: 1, 2: 1, 3: 1, 4: 1})
        house = house_after(begin(), kill(3), mind(), kill(4), kill(1), begin())
        self.assertEqual(house.lives, {1: 2, 2: 2, 3: 3, 4: 2})
        self.assertEqual(house.living, {1: True, 2: True, 3: True, 4: True})

    def test_questions_from_ahead_of_it_are_nothing(self):
        line = [begin(), ask(1, 3), take(1), kill(1), begin(), take(1)]
        self.assertEqual(told(*line, save())[-2:], [[1, 3, 1, 1, 1, 1, 0, 0, 5], [0]])

    def test_begin_answers_how_many_are_done_on_the_disk(self):
        line = [begin()] + way(1, 3) + way(2, 4) + way(1, 4) + [kill(1), begin()]
        self.assertEqual(last(*line), [3])


class TheStore(unittest.TestCase):
    def test_nobody_waits_any_more_and_the_book_stays(self):
        line = [begin(), ask(1, 3), take(1), take(1), kill(2)]
        house = house_after(*line)
        self.assertEqual(house.waiting, [])
        self.assertEqual((house.book.done, house.book.accounts), ([(1, 1, 0, 0, 5, 5)], [5, 0, 0, 0]))
        self.assertEqual(house.disk.done, [])
        self.assertEqual(told(*line, mind(), save())[-3:], [[0], [2, 1], [0]])

    def test_what_was_done_is_not_done_twice(self):
        line = [begin(), ask(1, 3), take(1), take(1), kill(2), mind(), again(1, 4), take(1), take(1), save()]
        self.assertEqual(told(*line, take(1), take(1))[-2:], [[2, 4, 1, 1, 1, 5], [3, 1, 1, 5]])

    def test_the_book_that_stayed_is_saved(self):
        line = [begin(), ask(1, 3), take(1), take(1), kill(2), mind(), save(), kill(1), begin()]
        self.assertEqual(last(*line), [1])

    def test_it_saves_only_while_it_lives(self):
        self.assertEqual(told(begin(), kill(2), save(), mind(), save())[1:], [[0], [-8], [2, 1], [0]])


class AServer(unittest.TestCase):
    def test_it_alone_dies(self):
        line = [begin(), ask(1, 4), take(1), take(1), kill(3)]
        house = house_after(*line)
        self.assertEqual(house.living, {1: True, 2: True, 3: False, 4: True})
        self.assertEqual(last(*line, save()), [1])

    def test_who_waits_goes_on_waiting_when_it_dies_itself(self):
        self.assertEqual(last(begin(), ask(1, 3), take(1), take(1), kill(3), save()), [1])

    def test_it_lives_again_in_its_next_life(self):
        house = house_after(begin(), kill(3), mind())
        self.assertEqual((house.living[3], house.lives[3], house.lives[4]), (True, 2, 1))
        self.assertEqual((house.noted, house.times), ([], [0]))


class Minding(unittest.TestCase):
    def test_deaths_are_minded_in_order(self):
        line = [begin(), kill(4), kill(2), kill(3)]
        self.assertEqual(told(*line, mind(), mind(), mind(), mind())[-4:], [[4, 1], [2, 1], [3, 1], [-5]])

    def test_one_at_a_time(self):
        house = house_after(begin(), kill(4), kill(2), mind())
        self.assertEqual((house.noted, house.living), ([2], {1: True, 2: False, 3: True, 4: True}))

    def test_the_third_time_and_the_fourth(self):
        line = [begin()] + [kill(3), mind()] * 3
        self.assertEqual(last(*line), [3, 1])
        down = line + [kill(4), mind()]
        self.assertEqual(told(*down)[-2:], [[0], [4, 0]])
        self.assertEqual(told(*down, kill(1), kill(2), kill(3), kill(4), mind())[-5:], [[-8], [-8], [-8], [-8], [-5]])

    def test_giving_up_is_as_the_keepers_death(self):
        line = [begin()] + way(1, 3) + [ask(1, 3), take(1), take(1), ask(2, 4)]
        line = line + [kill(3), mind()] * 3 + [kill(4), kill(3), mind()]
        house = house_after(*line)
        self.assertEqual(last(*line), [4, 0])
        self.assertEqual(house.living, {1: False, 2: False, 3: False, 4: False})
        self.assertEqual(house.lives, {1: 1, 2: 1, 3: 4, 4: 1})
        self.assertEqual((house.waiting, house.noted, house.times), ([], [], []))
        self.assertEqual((house.book.accounts, house.book.done), ([0, 0, 0, 0], []))
        self.assertEqual(house.disk.done, [(1, 1, 0, 0, 5, 5)])
        self.assertEqual(last(*line, begin()), [1])

    def test_the_keeper_has_no_times_when_it_is_begun_again(self):
        line = [begin()] + [kill(3), mind()] * 3 + [kill(1), begin()] + [kill(3), mind()] * 3
        self.assertEqual(last(*line), [3, 1])
        self.assertEqual(last(*line, kill(2), mind()), [2, 0])

    def started_at(self, *moments):
        """A line in which server 3 dies and is minded at these times; and what mind answers each time."""
        line = [begin()]
        now = 0
        for moment in moments:
            line = line + [ticks(moment - now), kill(3), mind()]
            now = moment
        return line, told(*line)[3::3]

    def test_a_hundred_ago_counts(self):
        line, answers = self.started_at(7, 7, 7, 107)
        self.assertEqual(answers, [[3, 1], [3, 1], [3, 1], [3, 0]])
        self.assertEqual(last(*line, notes()), [0, 0])

    def test_longer_ago_does_not_count(self):
        line, answers = self.started_at(7, 8, 8, 108)
        self.assertEqual(answers, [[3, 1], [3, 1], [3, 1], [3, 1]])
        self.assertEqual(last(*line, notes()), [0, 3, 8, 8, 108])
        self.assertEqual(last(*line, process(3)), [1, 5])

    def test_just_one_of_three_is_longer_ago(self):
        self.assertEqual(self.started_at(0, 1, 2, 100)[1][-1], [3, 0])
        self.assertEqual(self.started_at(0, 1, 2, 101)[1][-1], [3, 1])
        self.assertEqual(self.started_at(0, 1, 2, 101, 101)[1][-1], [3, 0])
        self.assertEqual(self.started_at(0, 1, 2, 101, 102)[1][-1], [3, 1])

    def test_times_that_do_not_count_are_not_kept(self):
        line, answers = self.started_at(0, 50, 300)
        self.assertEqual(last(*line, notes()), [0, 1, 300])
        self.assertEqual(answers[-1], [3, 1])

    def test_all_times_that_count_are_kept(self):
        line, answers = self.started_at(0, 50, 100)
        self.assertEqual(last(*line, notes()), [0, 3, 0, 50, 100])
        self.assertEqual(answers[-1], [3, 1])

    def test_times_go_only_when_the_keeper_minds(self):
        line, answers = self.started_at(0, 50)
        self.assertEqual(last(*line, ticks(9000), notes()), [0, 2, 0, 50])

    def test_when_it_died_is_nothing_to_the_keeper(self):
        line = [begin(), kill(2), kill(3), kill(4), mind(), mind(), mind(), kill(2)]
        self.assertEqual(told(*line, ticks(100), mind())[-1], [2, 0])
        self.assertEqual(told(*line, ticks(101), mind(), notes())[-2:], [[2, 1], [0, 1, 101]])

    def test_rounds_take_no_time(self):
        line = [begin()] + [kill(3), mind()] * 3 + [turns(200), kill(3), mind()]
        self.assertEqual(last(*line), [3, 0])

    def test_the_time_goes_on_while_all_is_down(self):
        line = [begin(), ticks(10), kill(1), ticks(20), begin(), ticks(30), kill(2), mind()]
        self.assertEqual(last(*line, notes()), [0, 1, 60])


if __name__ == "__main__":
    unittest.main()
