"""Programs: what they are made of, and what one does with a message."""

from piecetold.errors import InvalidProgram

LETTERS = "abcdefghijklmnopqrstuvwxyz"
MOST_LETTERS = 8
MOST_NAMES = 4
MOST_CHANNELS = 2
MOST_SIGNALS = 4
MOST_STATES = 10
MOST_KEPT = 4
MOST_OUTPUTS = 3


def is_row(value):
    """Tell whether the value is a tuple, or a list in the place of one."""
    return isinstance(value, (list, tuple))


def is_row_of(value, least, most):
    """Tell whether the value is a tuple or list with a number of items from least to most."""
    return is_row(value) and least <= len(value) <= most


def is_integer(value):
    """Tell whether the value is an integer."""
    # Python counts True and False as integers, the document does not.
    return isinstance(value, int) and not isinstance(value, bool)


def is_index(value, many):
    """Tell whether the value is the index of one of so many things."""
    return is_integer(value) and 0 <= value < many


def is_word(value):
    """Tell whether the value is a word."""
    if not isinstance(value, str) or not 1 <= len(value) <= MOST_LETTERS:
        return False
    return all([letter in LETTERS for letter in value])


def is_ascending(integers):
    """Tell whether each integer is less than the one after it."""
    return all([low < high for low, high in zip(integers, integers[1:])])


def demand(holds, why):
    """Raise InvalidProgram unless the condition holds."""
    if not holds:
        raise InvalidProgram(why)


def words_from(values, most):
    """Return the words as a tuple. Raises InvalidProgram."""
    demand(is_row_of(values, 1, most), "words must be a tuple with as many items as are allowed")
    demand(all([is_word(value) for value in values]), "a word has 1 to 8 letters from a to z")
    demand(len(set(values)) == len(values), "words that stand together must be different")
    return tuple(values)


def channels_from(values):
    """Return the channels with their signals, as tuples. Raises InvalidProgram."""
    demand(is_row_of(values, 1, MOST_CHANNELS), "a program has 1 or 2 channels")
    demand(all([is_row_of(value, 2, 2) for value in values]), "a channel stands in a pair with its signals")
    names = words_from([value[0] for value in values], MOST_CHANNELS)
    return tuple([(name, words_from(value[1], MOST_SIGNALS)) for name, value in zip(names, values)])


def states_from(values):
    """Return the states as a tuple. Raises InvalidProgram."""
    demand(is_row_of(values, 1, MOST_STATES), "a program has 1 to 10 states")
    demand(all([is_index(value, MOST_KEPT + 1) for value in values]), "a state keeps 0 to 4 integers")
    demand(values[0] == 0, "state 0 keeps nothing")
    return tuple(values)


def sources_from(values, many, candidates):
    """Return so many indexes of candidates as a tuple. Raises InvalidProgram."""
    demand(is_row_of(values, many, many), "there is a source for each integer that the target keeps")
    demand(all([is_index(value, candidates) for value in values]), "a source is the index of a candidate")
    demand(is_ascending(values), "sources are strictly ascending")
    return tuple(values)


def output_from(program, value, candidates):
    """Return an output as a tuple. Raises InvalidProgram."""
    demand(is_row_of(value, 3, 3), "an output is a triple")
    channel, signal, index = value
    demand(signal in signals_of(program, channel), "an output has a channel and a signal of this channel")
    demand(is_index(index, candidates), "an output has the index of a candidate")
    return (channel, signal, index)


def outputs_from(program, values, candidates):
    """Return the outputs of a rule as tuples. Raises InvalidProgram."""
    demand(is_row_of(values, 0, MOST_OUTPUTS), "a rule has at most 3 outputs")
    return tuple([output_from(program, value, candidates) for value in values])


def rule_from(program, rule):
    """Return a rule as tuples. Raises InvalidProgram."""
    demand(is_row_of(rule, 6, 6), "a rule has six parts")
    state, name, position, target, sources, outputs = rule
    demand(is_index(state, len(program.states)), "a rule is for a state of the program")
    demand(name in program.names, "a rule is for a name that the program hears")
    kept = program.states[state]
    demand(is_index(position, positions_among(kept)), "a rule is for a position among the kept integers")
    demand(is_index(target, len(program.states)), "the target of a rule is a state of the program")
    candidates = candidates_at(kept, position)
    sources = sources_from(sources, program.states[target], candidates)
    return (state, name, position, target, sources, outputs_from(program, outputs, candidates))


def table_from(program, rules):
    """Return a dict of the rules by state, name and position. Raises InvalidProgram."""
    demand(is_row(rules), "rules must be a tuple")
    table = {}
    for value in rules:
        rule = rule_from(program, value)
        demand(rule[:3] not in table, "there is only one rule for a state, a name and a position")
        table[rule[:3]] = rule
    return table


def situations_of(program):
    """Return all states, names and positions that need a rule, in order."""
    return [
        (state, name, position)
        for state, kept in enumerate(program.states)
        for name in program.names
        for position in range(positions_among(kept))
    ]


def positions_among(kept):
    """Return how many positions there are among so many kept integers."""
    return 2 * kept + 1


def candidates_at(kept, position):
    """Return how many candidates there are at a position among so many kept integers."""
    # In an odd position the message brings an integer that is kept already.
    return kept if position % 2 == 1 else kept + 1


def signals_of(program, channel):
    """Return the signals of a channel; none if the program does not have the channel."""
    for name, signals in program.channels:
        if name == channel:
            return signals
    return ()


class Program:
    """A program that keeps a few integers and compares them by order alone."""

    def __init__(self, names, channels, states, rules):
        """Copy the parts. Raises InvalidProgram if they do not make a program."""
        self.names = words_from(names, MOST_NAMES)
        self.channels = channels_from(channels)
        self.states = states_from(states)
        self.table = table_from(self, rules)
        situations = situations_of(self)
        demand(len(self.table) == len(situations), "there is a rule for each state, name and position")
        self.rules = tuple([self.table[situation] for situation in situations])


def position_of(integer, kept):
    """Return the position of an integer among kept integers."""
    position = 0
    for value in kept:
        if integer > value:
            position += 2
        elif integer == value:
            position += 1
    return position


def candidates_of(integer, kept, position):
    """Return the candidates: the kept integers and the one that has this position, each once."""
    candidates = list(kept)
    if position % 2 == 0:
        candidates.insert(position // 2, integer)
    return candidates


def start(program):
    """Return the start configuration of a program."""
    return (0, ())


def step(program, configuration, message):
    """Return the next configuration, and what the program writes for the message."""
    state, kept = configuration
    name, integer = message
    position = position_of(integer, kept)
    rule = program.table[(state, name, position)]
    candidates = candidates_of(integer, kept, position)
    keeps = tuple([candidates[source] for source in rule[4]])
    writes = tuple([(channel, signal, candidates[index]) for channel, signal, index in rule[5]])
    return (rule[3], keeps), writes
