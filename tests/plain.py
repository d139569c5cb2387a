"""A second, plain reading of points 9 to 20, to compare the package with; it works everything out anew each time."""

from piecetold.errors import NoSuchChannel, NoSuchPiece, NoSuchPlace, NothingToRedo, NothingToUndo
from piecetold.errors import InvalidInput, InvalidWorker, ToldOther, TooMuch
from samples import plain_deed, plain_integer, tuples_of


def plain_class(beginning, messages):
    """What point 9 says of a beginning and an input."""
    integers = [integer for part in beginning for integer in part[1]] + [message[1] for message in messages]

    def rank(integer):
        return len({other for other in integers if other < integer})

    first = tuple((state, tuple(rank(integer) for integer in kept)) for state, kept in beginning)
    return first, tuple((name, rank(integer)) for name, integer in messages)


def plain_classes(states, messages):
    """What point 20 says, for a program with these states: twice the integers leave room for halves between them."""
    values = sorted({integer for _, integer in messages})
    found = []
    for state, many in enumerate(states):
        tuples = [()]
        for _ in range(many):
            tuples = [row + (position,) for row in tuples for position in range(2 * len(values) + 1)]
        for row in sorted(tuples):
            if list(row) == sorted(row) and all(row.count(position) == 1 for position in row if position % 2):
                # An input's integer stands at 100 times its position, the ones in a gap one after the other.
                kept = tuple(100 * position + (0 if position % 2 else row[:at].count(position) + 1)
                             for at, position in enumerate(row))
                heard = tuple((name, 100 * (2 * values.index(integer) + 1)) for name, integer in messages)
                found.append(plain_class(((state, kept),), heard))
    return found


def same_by(steps, change):
    """The steps with each integer replaced by what the function gives for it."""
    return [tuple((state, tuple(map(change, kept)), tuple((out[0], out[1], change(out[2])) for out in writes))
                  for state, kept, writes in done) for done in steps]


def integers_of(beginning, messages):
    return sorted({integer for part in beginning for integer in part[1]} | {integer for _, integer in messages})


class PlainDesk:
    """Points 13, 15 and 17 for right arguments."""

    def __init__(self, chain, liars):
        self.chain, self.liars = chain, liars
        self.pairs, self.open_tales, self.names, self.hints = [], [], set(), []

    def deed_for(self, some_class):
        for other, deed in self.pairs:
            if other == some_class:
                return deed
        return None

    def keep(self, some_class, deed):
        if self.deed_for(some_class) is None:
            for worker, other, told in self.open_tales:
                if other == some_class and told != deed:
                    self.names.add(worker)
            self.open_tales = [tale for tale in self.open_tales if tale[1] != some_class]
            self.pairs.append((some_class, deed))

    def tell(self, worker, some_class, deed):
        if self.deed_for(some_class) is not None:
            if self.deed_for(some_class) == deed:
                return "known"
            self.names.add(worker)
            return "wrong"
        for other, about, told in self.open_tales:
            if (other, about) == (worker, some_class):
                if told == deed:
                    return "again"
                raise ToldOther("another deed")
        self.open_tales.append((worker, some_class, deed))
        if len([1 for tale in self.open_tales if tale[1:] == (some_class, deed)]) > self.liars:
            self.keep(some_class, deed)
            return "taken"
        return "told"

    def kept(self, some_class):
        return self.deed_for(some_class)

    def classes(self):
        return [pair[0] for pair in self.pairs]

    def open_count(self):
        return len(self.open_tales)

    def named(self):
        return sorted(self.names)

    def guess(self, some_class):
        if some_class not in self.hints and self.deed_for(some_class) is None:
            self.hints.append(some_class)

    def guesses(self):
        return [some_class for some_class in self.hints if self.deed_for(some_class) is None]

    def can_do(self, worker, some_class):
        told = [tale for tale in self.open_tales if tale[:2] == (worker, some_class)]
        return self.deed_for(some_class) is None and not told


class PlainDocument:
    """Points 11, 12, 14, 15, 17 and 19."""

    def __init__(self, desk):
        self.desk = desk
        # All states that can be reached by undo and redo, and which one it is.
        self.history, self.now = [((), 0)], 0

    def state(self):
        return self.history[self.now]

    def edit(self, rows, following):
        self.history = self.history[:self.now + 1] + [(tuple(rows), following)]
        self.history = self.history[-21:]
        self.now = len(self.history) - 1

    def undo(self):
        if self.now == 0:
            raise NothingToUndo("nothing")
        self.now -= 1

    def redo(self):
        if self.now == len(self.history) - 1:
            raise NothingToRedo("nothing")
        self.now += 1

    def find(self, piece):
        for at, (number, _) in enumerate(self.state()[0]):
            if plain_integer(piece) and number == piece:
                return at
        raise NoSuchPiece("no piece")

    def place(self, place, most):
        if not plain_integer(place) or place < 0 or place > most:
            raise NoSuchPlace("no place")

    def input(self, messages):
        names = self.desk.chain.programs[0].names
        if len(messages) > 40 or any(name not in names for name, _ in messages):
            raise InvalidInput("no input")
        return tuples_of(messages)

    def room(self):
        if len(self.state()[0]) == 30:
            raise TooMuch("30 pieces")

    def put(self, place, messages):
        rows, following = self.state()
        self.place(place, len(rows))
        messages = self.input(messages)
        self.room()
        self.edit(rows[:place] + ((following, messages),) + rows[place:], following + 1)
        return following

    def drop(self, piece):
        at = self.find(piece)
        self.edit([row for k, row in enumerate(self.state()[0]) if k != at], self.state()[1])

    def change(self, piece, messages):
        at = self.find(piece)
        messages = self.input(messages)
        self.edit([(row[0], messages) if k == at else row for k, row in enumerate(self.state()[0])], self.state()[1])

    def move(self, piece, place):
        rows = list(self.state()[0])
        row = rows.pop(self.find(piece))
        self.place(place, len(rows))
        rows.insert(place, row)
        self.edit(rows, self.state()[1])

    def keep(self, beginning, messages, steps):
        integers = integers_of(beginning, messages)
        used = {number for done in steps for part in done for number in part[1]}
        used |= {out[2] for done in steps for part in done for out in part[2]}
        if messages and used <= set(integers):
            self.desk.keep(plain_class(beginning, messages), same_by(steps, integers.index))

    def cut(self, piece, place):
        at = self.find(piece)
        rows, following = list(self.state()[0]), self.state()[1]
        messages = rows[at][1]
        self.place(place, len(messages))
        self.room()
        told = self.process()
        if at < len(told):
            beginning, steps = told[at][:2]
            self.keep(beginning, messages[:place], steps[:place])
            if place > 0:
                beginning = tuple(part[:2] for part in steps[place - 1])
            self.keep(beginning, messages[place:], steps[place:])
        rows[at:at + 1] = [(piece, messages[:place]), (following, messages[place:])]
        self.edit(rows, following + 1)
        return following

    def glue(self, piece):
        at = self.find(piece)
        rows = list(self.state()[0])
        if at + 1 == len(rows):
            raise NoSuchPlace("the last one")
        messages = rows[at][1] + rows[at + 1][1]
        if len(messages) > 40:
            raise TooMuch("40 messages")
        told = self.process()
        if at + 1 < len(told):
            self.keep(told[at][0], messages, told[at][1] + told[at + 1][1])
        rows[at:at + 2] = [(piece, messages)]
        self.edit(rows, self.state()[1])

    def process(self):
        """For each known piece: where it begins, its steps and where it ends."""
        found = []
        reached = tuple((0, ()) for _ in self.desk.chain.programs)
        for _, messages in self.state()[0]:
            steps = []
            if messages:
                deed = self.desk.deed_for(plain_class(reached, messages))
                if deed is None:
                    break
                integers = integers_of(reached, messages)
                steps = same_by(deed, lambda rank: integers[rank])
            after = tuple(part[:2] for part in steps[-1]) if steps else reached
            found.append((reached, steps, after))
            reached = after
        return found

    def pieces(self):
        return [(number, list(messages)) for number, messages in self.state()[0]]

    def known(self):
        told = self.process()
        return len(told), sum(len(steps) for _, steps, _ in told)

    def front(self):
        told = self.process()
        return told[-1][2] if told else tuple((0, ()) for _ in self.desk.chain.programs)

    def wanted(self):
        rows, many = self.state()[0], self.known()[0]
        return plain_class(self.front(), rows[many][1]) if many < len(rows) else None

    def writings(self, program, channel):
        """What is known of the channel: triples of a message and the indexes of the piece and the message."""
        if not plain_integer(program) or program not in range(len(self.desk.chain.programs)):
            raise NoSuchChannel("no program")
        if channel not in [name for name, _ in self.desk.chain.programs[program].channels]:
            raise NoSuchChannel("no channel")
        return [(out[1:], at, k) for at, told in enumerate(self.process()) for k, done in enumerate(told[1])
                for out in done[program][2] if out[0] == channel]

    def output(self, program, channel):
        return [message for message, _, _ in self.writings(program, channel)]

    def origin(self, program, channel, index):
        found = self.writings(program, channel)
        if not plain_integer(index) or index not in range(len(found)):
            raise NoSuchPlace("no message")
        message, piece, at = found[index]
        rows = self.state()[0]
        places = [(j, k) for j, row in enumerate(rows) for k in range(len(row[1])) if (j, k) <= (piece, at)]
        same = [(rows[j][0], k) for j, k in places if rows[j][1][k][1] == message[1]]
        return (rows[piece][0], at), same[-1] if same else None

    def next_class(self, worker):
        if not plain_integer(worker) or worker not in range(100):
            raise InvalidWorker("no worker")
        for some_class in [self.wanted()] + self.desk.guesses():
            if some_class is not None and self.desk.can_do(worker, some_class):
                return some_class
        return None
