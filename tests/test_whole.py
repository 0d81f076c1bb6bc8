"""What the house stands for, on many lines of calls: made by a seed, so the same each time."""

import random
import unittest

from staysup.book import Book
from staysup.house import House
from tests.helper import again, ask, begin, keep, kill, lose, mind, save, state, step, take

LINES = 300
CALLS = 100


def some_call(chance, house):
    many = len(house.letters)
    k = chance.randint(0, many + 1) if chance.random() < 0.1 else chance.randint(min(1, many), many)
    c = chance.randint(0, 4) if chance.random() < 0.1 else chance.randint(1, 3)
    s = chance.randint(2, 5) if chance.random() < 0.1 else chance.randint(3, 4)
    p = chance.choice((0, 1, 2, 2, 2, 3, 3, 4, 4, 5))
    much = chance.choice((0, 1, 2, 5, 1000, 1001))
    asked = ask(c, s, chance.randint(0, 2), chance.randint(0, 3), much)
    calls = [begin()] * 2 + [asked] * 6 + [again(c, s)] * 3 + [take(k)] * 16 + [keep(k)] * 3
    calls = calls + [lose(k)] + [save()] * 4 + [kill(p)] * 2 + [mind()] * 2
    return chance.choice(calls)


def replayed(done):
    book = Book()
    for one in done:
        book.do_request(one[0], one[1], one[2:5])
    return book


class Whole(unittest.TestCase):
    def lines(self):
        for seed in range(LINES):
            yield random.Random(seed)

    def check_book(self, book):
        self.assertEqual(state(replayed(book.done)), state(book))
        for c in (1, 2, 3):
            numbers = [one[1] for one in book.done if one[0] == c]
            self.assertEqual(numbers, list(range(1, len(numbers) + 1)))

    def check_house(self, house):
        self.check_book(house.book)
        self.check_book(house.disk)
        if house.living[1]:
            self.assertEqual(house.book.done[:len(house.disk.done)], house.disk.done)
        else:
            self.assertEqual(house.living, {1: False, 2: False, 3: False, 4: False})
            self.assertEqual((house.book.done, house.noted, house.times), ([], [], []))
        if not house.living[2]:
            self.assertEqual(house.waiting, [])
        self.assertEqual(sorted(house.noted), [p for p in (2, 3, 4) if house.living[1] and not house.living[p]])
        for c, client in house.clients.items():
            on_disk = [one[5] for one in house.disk.done if one[0] == c]
            self.assertEqual(on_disk[:len(client.heard)], client.heard)
            self.assertEqual(client.made, len(client.heard) + (1 if client.waits else 0))

    def test_books_and_answers_hold_behind_each_call(self):
        for chance in self.lines():
            house = House()
            for turn in range(CALLS):
                disk = list(house.disk.done)
                before = state(house)
                call = some_call(chance, house)
                answer = step(house, call)
                self.assertEqual(house.disk.done[:len(disk)], disk)
                self.check_house(house)
                if answer[0] < 0:
                    self.assertEqual((len(answer), state(house)), (1, before))
                elif call[0] in (3, 4, 5):
                    self.assertEqual(answer, before["letters"][call[1] - 1])

    def test_it_comes_up_again_and_everybody_is_answered(self):
        for chance in self.lines():
            house = House()
            for turn in range(CALLS):
                step(house, some_call(chance, house))
            while house.letters:
                step(house, lose(1))
            while house.noted:
                step(house, mind())
            step(house, begin())
            for c, client in house.clients.items():
                if client.waits:
                    for call in (again(c, 3), take(1), take(1), save()):
                        step(house, call)
                    while house.letters:
                        step(house, take(1))
                self.assertFalse(client.waits)
                self.assertEqual(len(client.heard), client.made)
            self.check_house(house)


if __name__ == "__main__":
    unittest.main()
