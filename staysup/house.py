"""The house of processes: its state, what happens in it, and the calls on it."""

from staysup.book import Book

KEEPER = 1
STORE = 2
SERVERS = (3, 4)
PROCESSES = (1, 2, 3, 4)

# The sorts of letters. A letter is a tuple, told just as it stands:
# REQUEST, client, server, number, what, account, how much
# TO_STORE, server, its life, the store's life, client, number, what, account, how much
# FROM_STORE, server, its life, client, number, answer
# TO_CLIENT, client, number, answer
REQUEST = 0
TO_STORE = 1
FROM_STORE = 2
TO_CLIENT = 3

NO_SUCH = -1
NOTHING_THERE = -5
TOO_MANY = -6
NOT_NOW = -8

MOST_WHAT = 2
MOST_ACCOUNT = 3
MOST_MUCH = 1000
MOST_LETTERS = 60
MOST_STARTS = 3
LONGEST_AGO = 100
MOST_TICKS = 10000
MOST_ROUNDS = 200


class Client:
    """The last request is kept as it was asked, so that it can go once more."""

    def __init__(self):
        self.made = 0
        self.waits = False
        self.asked = (0, 0, 0)
        self.heard = []


class House:
    """Processes and clients stand under their numbers; `waiting` holds the letters that the next saving sends."""

    def __init__(self):
        self.time = 0
        self.living = {1: False, 2: False, 3: False, 4: False}
        self.lives = {1: 0, 2: 0, 3: 0, 4: 0}
        self.clients = {1: Client(), 2: Client(), 3: Client()}
        self.book = Book()
        self.disk = Book()
        self.waiting = []
        self.noted = []
        self.times = []
        self.letters = []

    def is_full(self):
        return len(self.letters) >= MOST_LETTERS

    def has_letter(self, k):
        return k >= 1 and k <= len(self.letters)

    def send_request(self, number_of_client, server):
        client = self.clients[number_of_client]
        self.letters.append((REQUEST, number_of_client, server, client.made) + client.asked)

    def letter_arrives(self, letter):
        if letter[0] == REQUEST:
            self.request_arrives(letter)
        elif letter[0] == TO_STORE:
            self.question_arrives(letter)
        elif letter[0] == FROM_STORE:
            self.reply_arrives(letter)
        else:
            self.answer_arrives(letter)

    def request_arrives(self, letter):
        client = letter[1]
        server = letter[2]
        number = letter[3]
        asked = letter[4:]
        if self.living[server] and self.living[STORE]:
            lives = (self.lives[server], self.lives[STORE])
            self.letters.append((TO_STORE, server) + lives + (client, number) + asked)

    def question_arrives(self, letter):
        life_of_store = letter[3]
        if self.living[STORE] and self.lives[STORE] == life_of_store:
            self.store_is_asked(letter)

    def reply_arrives(self, letter):
        server = letter[1]
        life = letter[2]
        if self.living[server] and self.lives[server] == life:
            self.letters.append((TO_CLIENT,) + letter[3:])

    def answer_arrives(self, letter):
        client = self.clients[letter[1]]
        number = letter[2]
        # A client waits for its last request alone.
        if client.waits and client.made == number:
            client.heard.append(letter[3])
            client.waits = False

    def store_is_asked(self, letter):
        client = letter[4]
        number = letter[5]
        asked = letter[6:]
        last = self.book.last(client)
        if number <= self.disk.last(client):
            if number == last:
                self.letters.append(self.reply_to(letter))
        elif number == last:
            self.waiting.append(self.reply_to(letter))
        elif number == last + 1:
            self.book.do_request(client, number, asked)
            self.waiting.append(self.reply_to(letter))

    def reply_to(self, letter):
        """The store's answer to who asked, in the life in which it asked."""
        server = letter[1]
        life = letter[2]
        client = letter[4]
        number = letter[5]
        return (FROM_STORE, server, life, client, number, self.book.answer_to(client, number))

    def store_saves(self):
        """Gives back how many letters were sent."""
        sent = len(self.waiting)
        self.disk = self.book.copy()
        self.letters.extend(self.waiting)
        self.waiting = []
        return sent

    def round_passes(self):
        """Letters stand in the order in which they were sent, so the first one was sent first."""
        if len(self.letters) > 0:
            self.letter_arrives(self.letters.pop(0))
        if self.living[STORE]:
            self.store_saves()

    def process_dies(self, process):
        if process == KEEPER:
            self.go_down()
            return
        self.living[process] = False
        self.noted.append(process)
        if process == STORE:
            self.waiting = []

    def go_down(self):
        for process in PROCESSES:
            self.living[process] = False
        self.book = Book()
        self.forget()

    def forget(self):
        self.waiting = []
        self.noted = []
        self.times = []

    def process_lives(self, process):
        self.living[process] = True
        self.lives[process] += 1

    def keeper_minds(self):
        counting = [moment for moment in self.times if self.time - moment <= LONGEST_AGO]
        counting.append(self.time)
        if len(counting) > MOST_STARTS:
            self.go_down()
            return
        self.process_lives(self.noted.pop(0))
        self.times = counting

    def come_up(self):
        for process in PROCESSES:
            self.process_lives(process)
        self.book = self.disk.copy()
        self.forget()


# Each call takes the house and the call's numbers, and gives back the list of what it answers.


def begin(house, numbers):
    if house.living[KEEPER]:
        return [NOT_NOW]
    house.come_up()
    return [len(house.disk.done)]


def ask(house, numbers):
    c = numbers[0]
    server = numbers[1]
    asked = tuple(numbers[2:])
    if c not in house.clients or server not in SERVERS:
        return [NO_SUCH]
    if asked[0] > MOST_WHAT or asked[1] > MOST_ACCOUNT or asked[2] > MOST_MUCH:
        return [NO_SUCH]
    client = house.clients[c]
    if client.waits:
        return [NOT_NOW]
    if house.is_full():
        return [TOO_MANY]
    client.made += 1
    client.waits = True
    client.asked = asked
    house.send_request(c, server)
    return [client.made]


def again(house, numbers):
    c = numbers[0]
    server = numbers[1]
    if c not in house.clients or server not in SERVERS:
        return [NO_SUCH]
    client = house.clients[c]
    if not client.waits:
        return [NOT_NOW]
    if house.is_full():
        return [TOO_MANY]
    house.send_request(c, server)
    return [client.made]


def take(house, numbers):
    k = numbers[0]
    if not house.has_letter(k):
        return [NOTHING_THERE]
    letter = house.letters.pop(k - 1)
    house.letter_arrives(letter)
    return list(letter)


def keep(house, numbers):
    k = numbers[0]
    if not house.has_letter(k):
        return [NOTHING_THERE]
    if house.is_full():
        return [TOO_MANY]
    letter = house.letters[k - 1]
    house.letter_arrives(letter)
    return list(letter)


def lose(house, numbers):
    k = numbers[0]
    if not house.has_letter(k):
        return [NOTHING_THERE]
    return list(house.letters.pop(k - 1))


def save(house, numbers):
    if not house.living[STORE]:
        return [NOT_NOW]
    return [house.store_saves()]


def kill(house, numbers):
    process = numbers[0]
    if process not in PROCESSES:
        return [NO_SUCH]
    if not house.living[process]:
        return [NOT_NOW]
    house.process_dies(process)
    return [1 if process == KEEPER else 0]


def mind(house, numbers):
    if len(house.noted) == 0:
        return [NOTHING_THERE]
    process = house.noted[0]
    house.keeper_minds()
    return [process, 1 if house.living[KEEPER] else 0]


def ticks(house, numbers):
    n = numbers[0]
    if n > MOST_TICKS:
        return [NO_SUCH]
    house.time += n
    return [house.time]


def turns(house, numbers):
    n = numbers[0]
    if n > MOST_ROUNDS:
        return [NO_SUCH]
    for turn in range(n):
        house.round_passes()
    return [len(house.letters)]


# The calls from here on only tell: they change nothing.


def tell_client(house, numbers):
    c = numbers[0]
    if c not in house.clients:
        return [NO_SUCH]
    client = house.clients[c]
    return [client.made, 1 if client.waits else 0, len(client.heard)] + client.heard


def tell_book(house, numbers):
    if not house.living[KEEPER]:
        return [NOT_NOW]
    return [len(house.waiting)] + house.book.told()


def tell_disk(house, numbers):
    return house.disk.told()


def tell_process(house, numbers):
    process = numbers[0]
    if process not in PROCESSES:
        return [NO_SUCH]
    return [1 if house.living[process] else 0, house.lives[process]]


def tell_notes(house, numbers):
    return [len(house.noted)] + house.noted + [len(house.times)] + house.times


def tell_air(house, numbers):
    answer = [len(house.letters)]
    for letter in house.letters:
        answer.extend(letter)
    return answer


# Both by the call's number: what answers it, and how many numbers it has.
CALLS = (
    begin, ask, again, take, keep, lose, save, kill, mind,
    ticks, turns, tell_client, tell_book, tell_disk, tell_process, tell_notes, tell_air,
)
NUMBERS = (0, 5, 2, 1, 1, 1, 0, 1, 0, 1, 1, 1, 0, 0, 1, 0, 0)


def answer_call(house, call, numbers):
    return CALLS[call](house, numbers)


def answers(calls):
    """For each call, in order: how many numbers are answered, then these."""
    house = House()
    told = []
    place = 0
    while place < len(calls):
        call = calls[place]
        behind = place + 1 + NUMBERS[call]
        answer = answer_call(house, call, calls[place + 1:behind])
        told.append(len(answer))
        told.extend(answer)
        place = behind
    return told
