"""The calls that only tell: client, book, disk, process, notes, air."""

import unittest

from tests.helper import (
    GREATEST, SHOW, again, air, ask, begin, book, client, disk, house_after, keep, kill, last, lose, mind, notes,
    process, save, shown, sixty, state, step, take, ticks, told, turns, way,
)

TELLING = SHOW[:-1] + [client(0), client(4), client(GREATEST), process(0), process(5), process(GREATEST)]

LINES = [
    [],
    [ask(1, 3)],
    [begin()],
    [begin()] + way(1, 3) + way(2, 4, 0, 3, 1000) + [ask(1, 4, 2, 0, 5), keep(1), take(2), kill(3)],
    [begin()] + way(1, 3) + [kill(2), mind(), ticks(50), kill(4), mind(), ticks(100), kill(2), kill(3), ask(2, 3)],
    [begin()] + way(1, 3) + [ask(1, 3), take(1), take(1), kill(1)],
    [begin()] + sixty(),
]


class NothingIsChanged(unittest.TestCase):
    def test_by_each_of_them(self):
        for line in LINES:
            house = house_after(*line)
            before = state(house)
            for call in TELLING:
                step(house, call)
                self.assertEqual(state(house), before)
                self.assertEqual(shown(*line, call), shown(*line))

    def test_what_is_answered_is_not_what_the_house_holds(self):
        for line in LINES:
            house = house_after(*line)
            before = state(house)
            for call in TELLING:
                step(house, call).append(7)
                self.assertEqual(state(house), before)

    def test_they_answer_the_same_again(self):
        for line in LINES:
            answers = told(*line, *TELLING)[len(line):]
            self.assertEqual(told(*line, *TELLING, *TELLING[::-1])[len(line):], answers + answers[::-1])


class AtTheBeginning(unittest.TestCase):
    def test_nobody_lives_and_all_is_empty(self):
        self.assertEqual(told(*SHOW), [[0, 0, 0]] * 3 + [[0, 0]] * 4 + [[-8], [0, 0, 0, 0, 0], [0, 0], [0], [0]])

    def test_it_is_begun(self):
        self.assertEqual(shown(begin()), [[0, 0, 0]] * 3 + [[1, 1]] * 4 + [[0] * 6, [0] * 5, [0, 0], [0], [0]])


class Clients(unittest.TestCase):
    def test_it_waits_till_it_hears(self):
        line = [begin()] + way(3, 4, 0, 2, 9)
        answers = [last(*line[:count], client(3)) for count in range(1, len(line) + 1)]
        self.assertEqual(answers, [[0, 0, 0]] + [[1, 1, 0]] * 5 + [[1, 0, 1, 9]])

    def test_answers_in_the_order_in_which_they_were_heard(self):
        line = [begin()] + way(1, 3, 0, 0, 9) + way(1, 4, 2, 0, 4) + way(2, 4, 1, 0, 0) + way(1, 3, 1, 0, 0)
        self.assertEqual(told(*line, ask(1, 3), client(1), client(2), client(3))[-3:],
                         [[4, 1, 3, 9, 1, 5], [1, 0, 1, 5], [0, 0, 0]])

    def test_a_refused_request_is_not_made(self):
        self.assertEqual(last(ask(1, 3), ask(1, 3), ask(1, 3, 3), again(1, 4), client(1)), [1, 1, 0])

    def test_what_it_heard_outlives_the_house(self):
        line = [begin()] + way(1, 3) + [ask(1, 3), kill(1)]
        self.assertEqual(last(*line, client(1)), [2, 1, 1, 5])
        self.assertEqual(last(*line, begin(), client(1)), [2, 1, 1, 5])


class Books(unittest.TestCase):
    def test_what_was_done_in_order(self):
        line = [begin()] + way(1, 3, 0, 2, 10) + way(3, 4, 2, 2, 4) + way(1, 4, 2, 2, 7) + way(2, 3, 1, 2, 6)
        numbers = [0, 0, 6, 0, 4, 1, 1, 0, 2, 10, 10, 3, 1, 2, 2, 4, 1, 1, 2, 2, 2, 7, 0, 2, 1, 1, 2, 6, 6]
        self.assertEqual(told(*line, book(), disk())[-2:], [[0] + numbers, numbers])

    def test_the_accounts_stand_in_order(self):
        line = [begin()] + way(1, 3, 0, 0, 1) + way(1, 3, 0, 1, 20) + way(1, 3, 0, 2, 300) + way(1, 3, 0, 3, 1000)
        self.assertEqual(last(*line, disk())[:5], [1, 20, 300, 1000, 4])

    def test_how_many_wait_with_the_store(self):
        line = [begin(), ask(1, 3), ask(2, 4), ask(3, 4), take(1), take(1), take(1)]
        answers = [last(*line, *[take(1)] * count, book())[0] for count in range(4)]
        self.assertEqual(answers, [0, 1, 2, 3])
        self.assertEqual(last(*line, *[take(1)] * 3, save(), book())[0], 0)
        self.assertEqual(last(*line, *[take(1)] * 3, kill(2), book())[0], 0)
        self.assertEqual(last(*line, *[take(1)] * 3, kill(4), book())[0], 3)
        self.assertEqual(last(*line, *[take(1)] * 3, kill(1), begin(), book()), [0] * 6)

    def test_who_asked_twice_waits_twice(self):
        self.assertEqual(last(begin(), ask(1, 3), take(1), keep(1), take(1), book()),
                         [2, 5, 0, 0, 0, 1, 1, 1, 0, 0, 5, 5])

    def test_the_disk_is_behind_the_house(self):
        line = [begin()] + way(1, 3) + [ask(2, 4, 0, 1, 8), take(1), take(1)]
        one = [1, 1, 0, 0, 5, 5]
        both = one + [2, 1, 0, 1, 8, 8]
        self.assertEqual(told(*line, book(), disk())[-2:], [[1, 5, 8, 0, 0, 2] + both, [5, 0, 0, 0, 1] + one])
        self.assertEqual(told(*line, save(), book(), disk())[-2:], [[0, 5, 8, 0, 0, 2] + both, [5, 8, 0, 0, 2] + both])
        self.assertEqual(told(*line, kill(2), book(), disk())[-2:], [[0, 5, 8, 0, 0, 2] + both, [5, 0, 0, 0, 1] + one])
        self.assertEqual(told(*line, kill(1), book(), disk())[-2:], [[-8], [5, 0, 0, 0, 1] + one])
        self.assertEqual(told(*line, kill(1), begin(), book())[-1], [0, 5, 0, 0, 0, 1] + one)


class Processes(unittest.TestCase):
    def all_four(self, *line):
        return told(*line, *[process(p) for p in (1, 2, 3, 4)])[-4:]

    def test_each_death_and_each_life(self):
        line = [begin(), kill(3), kill(2)]
        self.assertEqual(self.all_four(*line), [[1, 1], [0, 1], [0, 1], [1, 1]])
        self.assertEqual(self.all_four(*line, mind()), [[1, 1], [0, 1], [1, 2], [1, 1]])
        self.assertEqual(self.all_four(*line, mind(), mind()), [[1, 1], [1, 2], [1, 2], [1, 1]])
        self.assertEqual(self.all_four(*line, mind(), kill(1)), [[0, 1], [0, 1], [0, 2], [0, 1]])
        self.assertEqual(self.all_four(*line, mind(), kill(1), begin()), [[1, 2], [1, 2], [1, 3], [1, 2]])

    def test_the_keeper_gives_up(self):
        line = [begin()] + [kill(4), mind()] * 3 + [kill(4), mind()]
        self.assertEqual(self.all_four(*line), [[0, 1], [0, 1], [0, 1], [0, 4]])


class Notes(unittest.TestCase):
    def test_deaths_in_order(self):
        self.assertEqual(last(begin(), kill(4), kill(2), kill(3), notes()), [3, 4, 2, 3, 0])

    def test_deaths_and_times(self):
        line = [begin(), ticks(8), kill(3), kill(2), kill(4), mind(), ticks(9), mind()]
        self.assertEqual(last(*line, notes()), [1, 4, 2, 8, 17])
        self.assertEqual(last(*line, kill(3), notes()), [2, 4, 3, 2, 8, 17])
        self.assertEqual(last(*line, mind(), notes()), [0, 3, 8, 17, 17])

    def test_the_keepers_own_death_is_not_noted(self):
        line = [begin(), kill(3), mind(), kill(2), kill(1)]
        self.assertEqual(last(*line, notes()), [0, 0])
        self.assertEqual(last(*line, begin(), notes()), [0, 0])

    def test_the_keeper_gives_up(self):
        line = [begin()] + [kill(3), mind()] * 3 + [kill(2), kill(4)]
        self.assertEqual(told(*line, notes(), mind(), notes())[-3:], [[2, 2, 4, 3, 0, 0, 0], [2, 0], [0, 0]])


class TheAir(unittest.TestCase):
    def test_one_letter_of_each_sort(self):
        line = [begin(), ask(1, 4), ask(2, 3, 0, 3, 7), take(1), take(2), save(), keep(2), ask(3, 3, 2, 1, 9), take(1)]
        self.assertEqual(last(*line, air()), [
            4,
            2, 4, 1, 1, 1, 5,
            3, 1, 1, 5,
            0, 3, 3, 1, 2, 1, 9,
            1, 3, 1, 1, 2, 1, 0, 3, 7,
        ])

    def test_lives_stand_in_letters(self):
        line = [begin(), kill(3), mind(), kill(3), mind(), kill(2), mind(), ask(1, 3), take(1)]
        self.assertEqual(last(*line, air()), [1, 1, 3, 3, 2, 1, 1, 0, 0, 5])
        self.assertEqual(last(*line, take(1), save(), air()), [1, 2, 3, 3, 1, 1, 5])

    def test_what_is_lost_or_taken_is_not_on_its_way(self):
        line = [ask(1, 3), ask(2, 4), ask(3, 3)]
        self.assertEqual(last(*line, lose(2), air()), [2, 0, 1, 3, 1, 0, 0, 5, 0, 3, 3, 1, 0, 0, 5])
        self.assertEqual(last(*line, take(3), air()), [2, 0, 1, 3, 1, 0, 0, 5, 0, 2, 4, 1, 0, 0, 5])
        self.assertEqual(last(*line, keep(2), air()), last(*line, air()))

    def test_letters_stay_on_their_way_when_all_is_down(self):
        line = [begin(), ask(1, 3), take(1), ask(2, 4)]
        self.assertEqual(last(*line, kill(1), air()), last(*line, air()))
        self.assertEqual(last(*line, kill(1), begin(), air()), last(*line, air()))

    def test_sixty_letters_and_more(self):
        self.assertEqual(last(*sixty(), air()), [60] + [0, 1, 3, 1, 0, 0, 5] * 60)
        line = [begin(), ask(1, 3), take(1), take(1)] + [again(1, 3)] * 60 + [turns(0), save(), air()]
        self.assertEqual(last(*line), [61] + [0, 1, 3, 1, 0, 0, 5] * 60 + [2, 3, 1, 1, 1, 5])


if __name__ == "__main__":
    unittest.main()
