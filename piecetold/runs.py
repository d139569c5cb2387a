"""Runs: how far the deeds that a desk keeps tell what its chain does with the pieces of a document."""

from piecetold.chains import after_deed, chain_start, messages_on
from piecetold.classes import beginning_with, integers_in, ranked, ranks_of, steps_with


class Part:
    """A known piece: where it begins, its messages, their integers, and the kept deed, in ranks."""

    def __init__(self, beginning, messages, deed):
        """Work out where the piece ends."""
        self.beginning = beginning
        self.messages = messages
        self.integers = integers_in(beginning, messages)
        self.deed = deed
        self.reached = beginning_with(after_deed(deed), self.integers) if deed else beginning


def steps_of(part):
    """Return the steps of a known piece, a list."""
    return steps_with(part.deed, part.integers)


def reached_after(beginning, steps):
    """Return the beginning after the steps, of which there may be none."""
    return after_deed(steps) if steps else beginning


def integers_of_steps(steps):
    """Return all integers of the steps, as often as they occur."""
    parts = [part for done in steps for part in done]
    kept = [integer for part in parts for integer in part[1]]
    return kept + [output[2] for part in parts for output in part[2]]


def keep_steps(desk, beginning, messages, steps):
    """Keep the steps as the deed for the class of the beginning and the messages, if it has none."""
    if not messages:
        return
    some_class = ranked(beginning, messages)
    ranks = ranks_of(integers_in(beginning, messages))
    # A wrong deed can have an integer that the class knows nothing of.
    strange = [integer for integer in integers_of_steps(steps) if integer not in ranks]
    if desk.kept_for(some_class) is None and not strange:
        desk.keep(some_class, tuple(steps_with(steps, ranks)))


def keep_cut(desk, part, place):
    """Keep what is known of a piece for both of its parts, when it is cut."""
    steps = steps_of(part)
    keep_steps(desk, part.beginning, part.messages[:place], steps[:place])
    keep_steps(desk, reached_after(part.beginning, steps[:place]), part.messages[place:], steps[place:])


def keep_glued(desk, first, second):
    """Keep what is known of two pieces as one deed, when they are glued."""
    keep_steps(desk, first.beginning, first.messages + second.messages, steps_of(first) + steps_of(second))


def traced(rows, parts, program, channel):
    """Return what the known parts write on a channel: a list of pairs of a message and its origin."""
    found = []
    last = {}
    for (number, messages), part in zip(rows, parts):
        for at, message in enumerate(messages):
            place = (number, at)
            last[message[1]] = place
            for signal, rank in messages_on(part.deed[at][program][2], channel):
                integer = part.integers[rank]
                found.append(((signal, integer), (place, last.get(integer))))
    return found


class Run:
    """The run of a desk's chain over pieces, as far as it is known; `rows` has their numbers and inputs."""

    def __init__(self, desk, rows):
        """Begin in the start of the chain, with no known piece."""
        self.desk = desk
        self.rows = rows
        self.parts = []
        self.reached = chain_start(desk.chain)
        self.lacking = None
        self.traces = {}
        self.counted = -1

    def advance(self):
        """Process the pieces as far as deeds are kept by now."""
        # Deeds are never given up: as long as there are no more of them, nothing more is known.
        if self.counted == self.desk.kept_count():
            return
        self.counted = self.desk.kept_count()
        self.lacking = None
        while len(self.parts) < len(self.rows) and self.lacking is None:
            self.process(self.rows[len(self.parts)][1])

    def process(self, messages):
        """Process the input of the next piece: it is known now, or its class is lacking."""
        deed = ()
        if messages:
            some_class = ranked(self.reached, messages)
            deed = self.desk.kept_for(some_class)
            if deed is None:
                self.lacking = some_class
                return
        part = Part(self.reached, messages, deed)
        self.parts.append(part)
        self.reached = part.reached
        self.traces = {}

    def trace(self, program, channel):
        """Return what is known of a channel: a list of pairs of a message and its origin."""
        if (program, channel) not in self.traces:
            self.traces[(program, channel)] = traced(self.rows, self.parts, program, channel)
        return self.traces[(program, channel)]
