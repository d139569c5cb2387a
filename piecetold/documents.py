"""Documents: inputs that are kept in pieces and edited, and what is known of their run."""

from piecetold.chains import is_input
from piecetold.classes import MOST_MESSAGES, tuples_of
from piecetold.desks import demand_worker
from piecetold.errors import InvalidInput, NoSuchChannel, NoSuchPiece, NoSuchPlace
from piecetold.errors import NothingToRedo, NothingToUndo, TooMuch
from piecetold.programs import is_index, is_integer, is_row_of, signals_of
from piecetold.runs import Run, keep_cut, keep_glued

MOST_PIECES = 30
MOST_EARLIER = 20


def input_from(chain, messages):
    """Return the input of a piece as tuples. Raises InvalidInput."""
    if not is_row_of(messages, 0, MOST_MESSAGES) or not is_input(chain, messages):
        raise InvalidInput("a piece has at most 40 messages with names that the chain hears")
    return tuples_of(messages)


def demand_place(place, most):
    """Raise NoSuchPlace unless the place is an integer from 0 to the greatest one."""
    if not is_index(place, most + 1):
        raise NoSuchPlace("there is no such place")


def demand_channel(chain, program, channel):
    """Raise NoSuchChannel unless the chain has the program, and this one the channel."""
    if not is_index(program, len(chain.programs)) or not signals_of(chain.programs[program], channel):
        raise NoSuchChannel("there is no such program or channel")


def demand_room(rows):
    """Raise TooMuch unless there can be one more piece."""
    if len(rows) >= MOST_PIECES:
        raise TooMuch("a document has at most 30 pieces")


def index_of(rows, piece):
    """Return the index of the piece with this number. Raises NoSuchPiece."""
    if is_integer(piece):
        for at, row in enumerate(rows):
            if row[0] == piece:
                return at
    raise NoSuchPiece("the document has no piece with this number")


class Document:
    """An input in pieces, whose run through the chain of a desk is known as far as deeds are kept."""

    def __init__(self, desk):
        """Begin without pieces."""
        self.desk = desk
        self.rows = ()
        self.following = 0
        self.earlier = []
        self.later = []
        self.run = Run(desk, ())

    def become(self, rows, following):
        """Have these pairs of a number and an input, and this number for the next piece."""
        self.rows = rows
        self.following = following
        self.run = Run(self.desk, rows)

    def edit(self, rows, following):
        """Become so by an edit, which can be undone."""
        self.earlier = (self.earlier + [(self.rows, self.following)])[-MOST_EARLIER:]
        self.later = []
        self.become(rows, following)

    def current(self):
        """Return the run, as far as it is known now."""
        self.run.advance()
        return self.run

    def put(self, place, messages):
        """Put a new piece at a place and return its number. Raises NoSuchPlace, InvalidInput, TooMuch."""
        demand_place(place, len(self.rows))
        row = (self.following, input_from(self.desk.chain, messages))
        demand_room(self.rows)
        self.edit(self.rows[:place] + (row,) + self.rows[place:], self.following + 1)
        return row[0]

    def drop(self, piece):
        """Drop a piece. Raises NoSuchPiece."""
        at = index_of(self.rows, piece)
        self.edit(self.rows[:at] + self.rows[at + 1:], self.following)

    def change(self, piece, messages):
        """Change the input of a piece. Raises NoSuchPiece, then InvalidInput."""
        at = index_of(self.rows, piece)
        row = (piece, input_from(self.desk.chain, messages))
        self.edit(self.rows[:at] + (row,) + self.rows[at + 1:], self.following)

    def move(self, piece, place):
        """Move a piece to a place among the others. Raises NoSuchPiece, then NoSuchPlace."""
        at = index_of(self.rows, piece)
        others = self.rows[:at] + self.rows[at + 1:]
        demand_place(place, len(others))
        self.edit(others[:place] + (self.rows[at],) + others[place:], self.following)

    def cut(self, piece, place):
        """Cut a piece in two, return the number of the second part. Raises NoSuchPiece, NoSuchPlace, TooMuch."""
        at = index_of(self.rows, piece)
        messages = self.rows[at][1]
        demand_place(place, len(messages))
        demand_room(self.rows)
        parts = self.current().parts
        if at < len(parts):
            keep_cut(self.desk, parts[at], place)
        number = self.following
        both = ((piece, messages[:place]), (number, messages[place:]))
        self.edit(self.rows[:at] + both + self.rows[at + 1:], number + 1)
        return number

    def glue(self, piece):
        """Glue a piece and the next one into one. Raises NoSuchPiece, then NoSuchPlace, then TooMuch."""
        at = index_of(self.rows, piece)
        demand_place(at + 1, len(self.rows) - 1)
        messages = self.rows[at][1] + self.rows[at + 1][1]
        if len(messages) > MOST_MESSAGES:
            raise TooMuch("a piece has at most 40 messages")
        parts = self.current().parts
        if at + 1 < len(parts):
            keep_glued(self.desk, parts[at], parts[at + 1])
        self.edit(self.rows[:at] + ((piece, messages),) + self.rows[at + 2:], self.following)

    def undo(self):
        """Go back by one state. Raises NothingToUndo."""
        if not self.earlier:
            raise NothingToUndo("no earlier state is remembered")
        self.later.append((self.rows, self.following))
        rows, following = self.earlier.pop()
        self.become(rows, following)

    def redo(self):
        """Go forward by one state. Raises NothingToRedo."""
        if not self.later:
            raise NothingToRedo("nothing was undone since the last edit")
        self.earlier.append((self.rows, self.following))
        rows, following = self.later.pop()
        self.become(rows, following)

    def pieces(self):
        """Return the list of pairs of a number and an input, a list."""
        return [(number, list(messages)) for number, messages in self.rows]

    def known(self):
        """Return a pair of how many pieces are known and how many messages these have."""
        parts = self.current().parts
        return (len(parts), sum([len(part.messages) for part in parts]))

    def front(self):
        """Return the beginning after the known pieces."""
        return self.current().reached

    def wanted(self):
        """Return the wanted class, or None."""
        return self.current().lacking

    def output(self, program, channel):
        """Return what is known of a channel, a list of messages. Raises NoSuchChannel."""
        demand_channel(self.desk.chain, program, channel)
        return [pair[0] for pair in self.current().trace(program, channel)]

    def origin(self, program, channel, index):
        """Return the origin of the message with this index. Raises NoSuchChannel, then NoSuchPlace."""
        demand_channel(self.desk.chain, program, channel)
        trace = self.current().trace(program, channel)
        demand_place(index, len(trace) - 1)
        return trace[index][1]

    def next_class(self, worker):
        """Return the class that the worker does next, or None. Raises InvalidWorker."""
        demand_worker(worker)
        wanted = self.wanted()
        if wanted is not None and self.desk.can_do(worker, wanted):
            return wanted
        for guess in self.desk.guesses():
            if self.desk.can_do(worker, guess):
                return guess
        return None
