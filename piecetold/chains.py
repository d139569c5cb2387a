"""Chains: programs of which each hears what the one before it writes."""

from piecetold.errors import InvalidBeginning, InvalidChain, InvalidInput
from piecetold.programs import Program, is_ascending, is_index, is_integer, is_row, is_row_of
from piecetold.programs import signals_of, start, step

MOST_PROGRAMS = 3


class Chain:
    """One to three programs, linked by channels."""

    def __init__(self, programs, links=()):
        """Copy the parts. Raises InvalidChain if they do not make a chain."""
        if not is_row_of(programs, 1, MOST_PROGRAMS):
            raise InvalidChain("a chain has 1 to 3 programs")
        if not all([isinstance(program, Program) for program in programs]):
            raise InvalidChain("a chain is made of programs")
        if not is_row_of(links, len(programs) - 1, len(programs) - 1):
            raise InvalidChain("there is a link for each program but the last one")
        for earlier, link, later in zip(programs, links, programs[1:]):
            if signals_of(earlier, link) != later.names:
                raise InvalidChain("a link is a channel whose signals are the names that the next program hears")
        self.programs = tuple(programs)
        self.links = tuple(links)


def names_of(chain):
    """Return the names that the chain hears."""
    return chain.programs[0].names


def chain_start(chain):
    """Return the start of the chain."""
    return tuple([start(program) for program in chain.programs])


def is_configuration(program, value):
    """Tell whether the value is a configuration of the program."""
    if not is_row_of(value, 2, 2):
        return False
    state, kept = value
    if not is_index(state, len(program.states)) or not is_row(kept) or len(kept) != program.states[state]:
        return False
    return all([is_integer(integer) for integer in kept]) and is_ascending(kept)


def is_beginning(chain, value):
    """Tell whether the value has a configuration for each program of the chain."""
    if not is_row(value) or len(value) != len(chain.programs):
        return False
    return all([is_configuration(program, part) for program, part in zip(chain.programs, value)])


def is_message(chain, value):
    """Tell whether the value is a message that the chain hears."""
    return is_row_of(value, 2, 2) and value[0] in names_of(chain) and is_integer(value[1])


def is_input(chain, value):
    """Tell whether the value is an input of the chain, of any length."""
    return is_row(value) and all([is_message(chain, message) for message in value])


def heard_by(program, configuration, messages):
    """Return the configuration after the messages, and all that the program writes for them."""
    reached = (configuration[0], tuple(configuration[1]))
    writes = []
    for message in messages:
        reached, more = step(program, reached, message)
        writes.extend(more)
    return reached, tuple(writes)


def messages_on(writes, channel):
    """Return what was written on the channel, as a list of messages."""
    return [(signal, integer) for name, signal, integer in writes if name == channel]


def chain_step(chain, beginning, message):
    """Return the next beginning, and the step of the chain for the message."""
    messages = [message]
    reached = []
    parts = []
    for at, program in enumerate(chain.programs):
        configuration, writes = heard_by(program, beginning[at], messages)
        reached.append(configuration)
        parts.append((configuration[0], configuration[1], writes))
        if at < len(chain.links):
            messages = messages_on(writes, chain.links[at])
    return tuple(reached), tuple(parts)


def deed_from(chain, beginning, messages):
    """Return the deed of a beginning and an input. Raises InvalidBeginning, then InvalidInput."""
    if not is_beginning(chain, beginning):
        raise InvalidBeginning("a beginning has a configuration for each program of the chain")
    if not is_input(chain, messages):
        raise InvalidInput("an input has messages with names that the chain hears")
    deed = []
    reached = beginning
    for message in messages:
        reached, done = chain_step(chain, reached, message)
        deed.append(done)
    return deed


def after_deed(deed):
    """Return the beginning after the last step of a deed that has at least one step."""
    return tuple([(part[0], tuple(part[1])) for part in deed[-1]])


def written(deed, program, channel):
    """Return the messages that the program with this index wrote on the channel in the deed."""
    return [message for parts in deed for message in messages_on(parts[program][2], channel)]
