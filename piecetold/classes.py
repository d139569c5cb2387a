"""Classes: beginnings and inputs that are alike by order, and the deeds for them."""

from piecetold.chains import Chain, deed_from, is_beginning, is_configuration, is_input
from piecetold.errors import InvalidBeginning, InvalidChain, InvalidClass, InvalidDeed, InvalidInput, TooMuch
from piecetold.programs import MOST_OUTPUTS, is_index, is_row, is_row_of, signals_of

MOST_MESSAGES = 40
MOST_CLASSES = 500


def tuples_of(value):
    """Return the value with tuples in the place of lists, at every depth."""
    if is_row(value):
        return tuple([tuples_of(item) for item in value])
    return value


def integers_in(beginning, messages):
    """Return the different integers of a beginning and an input, ascending."""
    kept = [integer for configuration in beginning for integer in configuration[1]]
    return sorted(set(kept + [message[1] for message in messages]))


def ranks_of(integers):
    """Return a dict that gives each of the ascending integers its rank."""
    return {integer: rank for rank, integer in enumerate(integers)}


def beginning_with(beginning, others):
    """Return the beginning with each integer replaced by the one that a dict or a list has for it."""
    return tuple([(state, tuple([others[integer] for integer in kept])) for state, kept in beginning])


def messages_with(messages, others):
    """Return the input, a tuple, with each integer replaced by the one that a dict or a list has for it."""
    return tuple([(name, others[integer]) for name, integer in messages])


def part_with(part, others):
    """Return one program's part of a step with each integer replaced by the one that a dict or a list has for it."""
    state, kept, writes = part
    keeps = tuple([others[integer] for integer in kept])
    return (state, keeps, tuple([(channel, signal, others[integer]) for channel, signal, integer in writes]))


def steps_with(steps, others):
    """Return the list of the steps with each integer replaced by the one that a dict or a list has for it."""
    return [tuple([part_with(part, others) for part in done]) for done in steps]


def ranked(beginning, messages):
    """Return the class of a beginning and an input that are right."""
    ranks = ranks_of(integers_in(beginning, messages))
    return (beginning_with(beginning, ranks), messages_with(messages, ranks))


def is_class_input(chain, value):
    """Tell whether the value is an input of the chain that has a class."""
    return is_row_of(value, 1, MOST_MESSAGES) and is_input(chain, value)


def demand_class_input(chain, messages):
    """Raise InvalidInput unless the messages are an input of the chain that has a class."""
    if not is_class_input(chain, messages):
        raise InvalidInput("an input that has a class has 1 to 40 messages with names that the chain hears")


def class_of(chain, beginning, messages):
    """Return the class of a beginning and an input. Raises InvalidBeginning, then InvalidInput."""
    if not is_beginning(chain, beginning):
        raise InvalidBeginning("a beginning has a configuration for each program of the chain")
    demand_class_input(chain, messages)
    return ranked(beginning, messages)


def is_class(chain, value):
    """Tell whether the value is a class of the chain."""
    if not is_row_of(value, 2, 2) or not is_beginning(chain, value[0]) or not is_class_input(chain, value[1]):
        return False
    integers = integers_in(value[0], value[1])
    return integers == list(range(len(integers)))


def class_from(chain, value):
    """Return a class as tuples. Raises InvalidClass if the value is none."""
    if not is_class(chain, value):
        raise InvalidClass("a class has a beginning and 1 to 40 messages, with the integers 0, 1, 2 and so on")
    return tuples_of(value)


def is_possible_output(program, ranks, value):
    """Tell whether the program can write the value if there are so many ranks."""
    if not is_row_of(value, 3, 3):
        return False
    channel, signal, integer = value
    return signal in signals_of(program, channel) and is_index(integer, ranks)


def is_possible_part(program, ranks, most, value):
    """Tell whether the value can be the program's part of a step, with at most so many outputs."""
    if not is_row_of(value, 3, 3) or not is_configuration(program, value[:2]):
        return False
    if not all([is_index(integer, ranks) for integer in value[1]]) or not is_row_of(value[2], 0, most):
        return False
    return all([is_possible_output(program, ranks, output) for output in value[2]])


def is_possible_step(chain, ranks, value):
    """Tell whether the value can be a step of the chain if there are so many ranks."""
    if not is_row(value) or len(value) != len(chain.programs):
        return False
    most = 1
    for program, part in zip(chain.programs, value):
        # Each output of a program can be a message for the next one.
        most = most * MOST_OUTPUTS
        if not is_possible_part(program, ranks, most, part):
            return False
    return True


def is_deed(chain, some_class, value):
    """Tell whether the value is a possible deed for the class."""
    beginning, messages = some_class
    if not is_row(value) or len(value) != len(messages):
        return False
    ranks = len(integers_in(beginning, messages))
    return all([is_possible_step(chain, ranks, done) for done in value])


def demand_deed(chain, some_class, value):
    """Raise InvalidDeed unless the value is a possible deed for the class."""
    if not is_deed(chain, some_class, value):
        raise InvalidDeed("a deed has a step for each message, in ranks of the class")


def deed_of(chain, some_class):
    """Return the deed of a class. Raises InvalidClass."""
    beginning, messages = class_from(chain, some_class)
    return deed_from(chain, beginning, messages)


def served(chain, beginning, messages, deed):
    """Return the deed with integers in the place of ranks. Raises what class_of raises, then InvalidDeed."""
    demand_deed(chain, class_of(chain, beginning, messages), deed)
    return steps_with(deed, integers_in(beginning, messages))


def placings_count(kept, others):
    """Return D(kept, others): how many tuples of positions kept integers can have among others."""
    row = [1] * (others + 1)
    for _ in range(kept):
        further = [1]
        for at in range(others):
            further.append(row[at + 1] + further[at] + row[at])
        row = further
    return row[others]


def least_position(placing):
    """Return the least position that the next kept integer can have behind those of a placing."""
    if not placing:
        return 0
    # An odd position is an integer of the input, and only one kept integer can be equal to it.
    return placing[-1] + placing[-1] % 2


def placings_of(kept, others):
    """Return the tuples of positions that so many kept integers can have among so many others, in order."""
    found = [()]
    for _ in range(kept):
        found = [
            placing + (position,) for placing in found for position in range(least_position(placing), 2 * others + 1)
        ]
    return found


def gaps_in(placing, below):
    """Return how many kept integers stand in a gap whose position is less than this."""
    return len([position for position in placing if position % 2 == 0 and position < below])


def class_placed(state, placing, messages):
    """Return the class with the state, whose kept integers have these positions among those of the input."""
    integers = integers_in((), messages)
    ranks = {integer: at + gaps_in(placing, 2 * at + 1) for at, integer in enumerate(integers)}
    # Half a position is how many integers of the input are less.
    kept = [position // 2 + gaps_in(placing[:at], 2 * len(integers) + 1) for at, position in enumerate(placing)]
    return (((state, tuple(kept)),), messages_with(messages, ranks))


def all_classes(chain, messages):
    """Return all classes that the input can have. Raises InvalidChain, then InvalidInput, then TooMuch."""
    if not isinstance(chain, Chain) or len(chain.programs) != 1:
        raise InvalidChain("the chain must have one program")
    demand_class_input(chain, messages)
    states = chain.programs[0].states
    others = len(integers_in((), messages))
    if sum([placings_count(kept, others) for kept in states]) > MOST_CLASSES:
        raise TooMuch("there are more than 500 classes")
    return [
        class_placed(state, placing, messages)
        for state, kept in enumerate(states)
        for placing in placings_of(kept, others)
    ]
