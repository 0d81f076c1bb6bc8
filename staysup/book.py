"""A book: what the accounts hold, and what was done, in order."""

ADD = 0
TELL = 1


class Book:
    """Each thing done is a tuple: client, number, what, account, how much, answer."""

    def __init__(self):
        self.accounts = [0, 0, 0, 0]
        self.done = []

    def copy(self):
        book = Book()
        book.accounts = list(self.accounts)
        book.done = list(self.done)
        return book

    def last(self, client):
        """How many of a client's requests are done: they are done in order, so this is the last one's number."""
        return len([one for one in self.done if one[0] == client])

    def answer_to(self, client, number):
        """What was answered to a request that is done."""
        found = [one[5] for one in self.done if one[0] == client and one[1] == number]
        return found[0]

    def told(self):
        """What the accounts hold, how many are done, and each thing done, number by number."""
        numbers = self.accounts + [len(self.done)]
        for one in self.done:
            numbers.extend(one)
        return numbers

    def do_request(self, client, number, asked):
        answer = self.change_account(asked)
        self.done.append((client, number) + asked + (answer,))

    def change_account(self, asked):
        """Does what's asked (what, account, how much), and gives back the answer."""
        what = asked[0]
        account = asked[1]
        much = asked[2]
        if what == ADD:
            self.accounts[account] += much
            return self.accounts[account]
        if what == TELL:
            return self.accounts[account]
        if self.accounts[account] < much:
            return 0
        self.accounts[account] -= much
        return 1
