"""Programs and chains for the tests, and a second, plain reading of the document to compare with."""

import random

from piecetold.chains import Chain
from piecetold.programs import Program

LETTERS = "abcdefghijklmnopqrstuvwxyz"


def rules_by(names, states, choose):
    """All rules of a program; choose(state, name, position, candidates) tells the last three parts."""
    rules = []
    for state, many in enumerate(states):
        for name in names:
            for position in range(2 * many + 1):
                candidates = many if position % 2 else many + 1
                rules.append((state, name, position) + choose(state, name, position, candidates))
    return rules


def latest_parts():
    """The program of the document's example."""
    rules = [(0, "put", 0, 1, (0,), ()), (1, "put", 0, 1, (0,), (("out", "low", 0),))]
    rules = rules + [(1, "put", 1, 1, (0,), ()), (1, "put", 2, 1, (1,), (("out", "high", 1),))]
    return [("put",), (("out", ("low", "high")),), (0, 1), rules]


def latest_chain():
    return Chain([Program(*latest_parts())])


def small_parts():
    """A right program with two names, two channels, and states that keep 0, 1, 2 and 0 integers."""
    names = ("put", "take")
    states = (0, 1, 2, 0)

    def choose(state, name, position, candidates):
        target = 2 if candidates > 1 else 1
        if name == "take":
            target = 3 if state == 2 else state
        sources = tuple(range(states[target]))
        outputs = (("out", "low", 0), ("log", "seen", candidates - 1), ("out", "high", 0))
        return target, sources, outputs[: (state + position) % 4]

    channels = (("out", ("low", "high")), ("log", ("seen", "lost")))
    return [names, channels, states, tuple(rules_by(names, states, choose))]


def greatest_parts(shift=0):
    """The greatest program that point 3 allows; it hears its own first channel's signals."""
    names = ("aaaaaaaa", "bbbbbbbb", "cccccccc", "dddddddd")
    channels = (("zzzzzzzz", names), ("yyyyyyyy", ("eeeeeeee", "ffffffff", "gggggggg", "hhhhhhhh")))
    states = (0,) + (4,) * 5 + (3, 2, 1, 4)

    def choose(state, name, position, candidates):
        target = (3 * state + names.index(name) + position + shift) % 10
        while states[target] > candidates:
            target = (target + 1) % 10
        # The highest candidates and the lowest ones are kept in turn.
        first = candidates - states[target] if position % 3 else 0
        sources = tuple(range(first, first + states[target]))
        outputs = []
        for turn in range(3):
            channel, signals = channels[(turn * position) % 2]
            outputs.append((channel, signals[(state + turn + position) % 4], (turn + position) % candidates))
        return target, sources, tuple(outputs)

    return [names, channels, states, tuple(rules_by(names, states, choose))]


def lists_of(value):
    """The same with lists in the place of tuples, at every depth."""
    if isinstance(value, (list, tuple)):
        return [lists_of(item) for item in value]
    return value


def tuples_of(value):
    """The same with tuples in the place of lists, at every depth."""
    if isinstance(value, (list, tuple)):
        return tuple([tuples_of(item) for item in value])
    return value


def holds_lists(value):
    """Whether a list stands in the value, at any depth."""
    if isinstance(value, tuple):
        return any(holds_lists(item) for item in value)
    return isinstance(value, list)


def first_program():
    """Writes none, one or three messages on its link, and others on its log."""
    table = {
        (0, "put", 0): (1, (0,), (("log", "seen", 0),)),
        (0, "take", 0): (0, (), ()),
        (1, "put", 0): (1, (0,), (("link", "less", 0), ("log", "seen", 0), ("link", "more", 1))),
        (1, "put", 1): (1, (0,), (("link", "same", 0),)),
        (1, "put", 2): (1, (1,), (("link", "more", 1), ("link", "more", 1), ("link", "less", 0))),
        (1, "take", 0): (0, (), ()),
        (1, "take", 1): (0, (), (("log", "seen", 0),)),
        (1, "take", 2): (1, (0,), (("link", "same", 1),)),
    }
    channels = [("link", ("less", "same", "more")), ("log", ("seen",))]
    return Program(("put", "take"), channels, (0, 1), [key + table[key] for key in table])


def second_program():
    """Keeps the least and the greatest integer; `same` writes both and forgets them."""
    up, down = "up", "down"
    rules = [
        (0, "less", 0, 1, (0,), (("out", down, 0),)),
        (0, "same", 0, 1, (0,), ()),
        (0, "more", 0, 1, (0,), ()),
    ]
    for name in ("less", "same", "more"):
        rules.append((1, name, 0, 2, (0, 1), (("out", down, 0),)))
        rules.append((1, name, 1, 1, (0,), ()))
        rules.append((1, name, 2, 2, (0, 1), (("out", up, 1),)))
    for name in ("less", "more"):
        rules.append((2, name, 0, 2, (0, 2), (("out", down, 0),)))
        rules.append((2, name, 1, 2, (0, 1), ()))
        rules.append((2, name, 2, 2, (0, 2), ()))
        rules.append((2, name, 3, 2, (0, 1), ()))
        rules.append((2, name, 4, 2, (0, 2), (("out", up, 2),)))
    for position in range(5):
        last = 1 if position % 2 else 2
        rules.append((2, "same", position, 0, (), (("out", up, last), ("out", down, 0))))
    return Program(("less", "same", "more"), [("out", (up, down))], (0, 1, 2), rules)


def third_program():
    """Writes two ticks for every second message."""
    rules = []
    for name in ("up", "down"):
        rules.append((0, name, 0, 1, (), ()))
        rules.append((1, name, 0, 0, (), (("end", "tick", 0), ("end", "tick", 0))))
    return Program(("up", "down"), [("end", ("tick",))], (0, 0), rules)


def three_chain():
    return Chain([first_program(), second_program(), third_program()], ("link", "out"))


THREE_INPUT = [
    ("put", 5), ("put", 3), ("put", 3), ("take", 9), ("put", 8), ("take", 8), ("take", 1), ("put", 4), ("take", 2)
]

# Worked out by hand from the rules above.
THREE_DEED = [
    ((1, (5,), (("log", "seen", 5),)), (0, (), ()), (0, (), ())),
    (
        (1, (3,), (("link", "less", 3), ("log", "seen", 3), ("link", "more", 5))),
        (2, (3, 5), (("out", "down", 3), ("out", "up", 5))),
        (0, (), (("end", "tick", 5), ("end", "tick", 5))),
    ),
    (
        (1, (3,), (("link", "same", 3),)),
        (0, (), (("out", "up", 5), ("out", "down", 3))),
        (0, (), (("end", "tick", 3), ("end", "tick", 3))),
    ),
    ((1, (3,), (("link", "same", 9),)), (1, (9,), ()), (0, (), ())),
    (
        (1, (8,), (("link", "more", 8), ("link", "more", 8), ("link", "less", 3))),
        (2, (3, 9), (("out", "down", 8), ("out", "down", 3))),
        (0, (), (("end", "tick", 3), ("end", "tick", 3))),
    ),
    ((0, (), (("log", "seen", 8),)), (2, (3, 9), ()), (0, (), ())),
    ((0, (), ()), (2, (3, 9), ()), (0, (), ())),
    ((1, (4,), (("log", "seen", 4),)), (2, (3, 9), ()), (0, (), ())),
    ((0, (), ()), (2, (3, 9), ()), (0, (), ())),
]


def plain_integer(value):
    return type(value) is int


def plain_word(value):
    return type(value) is str and 1 <= len(value) <= 8 and not value.strip(LETTERS)


def plain_words(values, most):
    if type(values) not in (list, tuple) or len(values) < 1 or len(values) > most:
        return False
    for at, value in enumerate(values):
        if not plain_word(value) or value in list(values)[:at]:
            return False
    return True


def plain_indexes(values, below):
    """Whether the value is a strictly ascending row of integers from 0 to less than this."""
    if type(values) not in (list, tuple) or not all(plain_integer(value) for value in values):
        return False
    return list(values) == [number for number in range(below) if number in values]


def plain_channels(channels):
    if type(channels) not in (list, tuple) or len(channels) not in (1, 2):
        return False
    for pair in channels:
        if type(pair) not in (list, tuple) or len(pair) != 2 or not plain_words(pair[1], 4):
            return False
    return plain_words([pair[0] for pair in channels], 2)


def plain_output(channels, output, candidates):
    if type(output) not in (list, tuple) or len(output) != 3:
        return False
    if not plain_integer(output[2]) or not 0 <= output[2] < candidates:
        return False
    pairs = [(name, signal) for name, signals in channels for signal in signals]
    return (output[0], output[1]) in pairs


def plain_rule(names, channels, states, rule):
    if type(rule) not in (list, tuple) or len(rule) != 6:
        return False
    state, name, position, target, sources, outputs = rule
    for index in (state, target):
        if not plain_integer(index) or index not in range(len(states)):
            return False
    if name not in list(names) or not plain_integer(position) or position not in range(2 * states[state] + 1):
        return False
    candidates = states[state] + (1 if position % 2 == 0 else 0)
    if not plain_indexes(sources, candidates) or len(sources) != states[target]:
        return False
    if type(outputs) not in (list, tuple) or len(outputs) > 3:
        return False
    return all(plain_output(channels, output, candidates) for output in outputs)


def plain_program(names, channels, states, rules):
    """Whether everything is as points 3 and 5 tell."""
    if not plain_words(names, 4) or not plain_channels(channels):
        return False
    if type(states) not in (list, tuple) or not 1 <= len(states) <= 10:
        return False
    if not all(plain_integer(many) and many in range(5) for many in states) or states[0] != 0:
        return False
    if type(rules) not in (list, tuple):
        return False
    if not all(plain_rule(names, channels, states, rule) for rule in rules):
        return False
    heads = [tuple(rule[:3]) for rule in rules]
    return len(heads) == len(set(heads)) == sum(2 * many + 1 for many in states) * len(names)


def plain_step(program, configuration, message):
    """What points 4 to 6 say, by a search through the rules."""
    state, kept = configuration
    name, integer = message
    position = 2 * len([value for value in kept if value < integer]) + (1 if integer in kept else 0)
    for rule in program.rules:
        if rule[:3] == (state, name, position):
            candidates = sorted(set(kept) | {integer})
            keeps = tuple(candidates[at] for at in rule[4])
            return (rule[3], keeps), tuple((output[0], output[1], candidates[output[2]]) for output in rule[5])
    raise AssertionError("no rule")


def plain_deed(chain, beginning, messages):
    """What points 7 and 8 say, program by program: each one runs over all that it hears, marked by its origin."""
    count = len(messages)
    heard = [(at, message) for at, message in enumerate(messages)]
    columns = []
    for at, program in enumerate(chain.programs):
        reached = [tuples_of(beginning[at])] * (count + 1)
        wrote = [()] * count
        for origin, message in heard:
            after, more = plain_step(program, reached[origin + 1], message)
            reached[origin + 1:] = [after] * (count - origin)
            wrote[origin] = wrote[origin] + more
        columns.append([(reached[k + 1][0], reached[k + 1][1], wrote[k]) for k in range(count)])
        if at < len(chain.links):
            heard = [(k, out[1:]) for k in range(count) for out in wrote[k] if out[0] == chain.links[at]]
    return [tuple(column[k] for column in columns) for k in range(count)]


def some_program(source, names, channels):
    """A right program with rules by chance, which are the same in each run of the tests."""
    states = (0,) + tuple(source.randrange(5) for _ in range(source.randrange(4)))

    def choose(state, name, position, candidates):
        target = source.choice([at for at, many in enumerate(states) if many <= candidates])
        sources = tuple(sorted(source.sample(range(candidates), states[target])))
        outputs = []
        for _ in range(source.randrange(4)):
            channel, signals = source.choice(channels)
            outputs.append((channel, source.choice(signals), source.randrange(candidates)))
        return target, sources, tuple(outputs)

    return Program(names, channels, states, rules_by(names, states, choose))


def some_chain(seed):
    """A chain of one to three programs by chance."""
    source = random.Random(seed)
    words = ["a", "bb", "ccc", "dddd", "eeeee", "ffffff", "ggggggg", "hhhhhhhh"]
    programs, links = [], []
    names = tuple(source.sample(words, source.randrange(1, 5)))
    for at in range(source.randrange(1, 4)):
        pair = source.sample(words, 2)[: source.randrange(1, 3)]
        channels = tuple((word, tuple(source.sample(words, source.randrange(1, 5)))) for word in pair)
        programs.append(some_program(source, names, channels))
        channel, names = source.choice(channels)
        links.append(channel)
    return Chain(programs, links[:-1])


def some_messages(seed, chain, many, below):
    source = random.Random(seed)
    names = chain.programs[0].names
    return [(source.choice(names), source.randrange(-below, below)) for _ in range(many)]


def shown(value):
    """A text for a value, to name it in a failure."""
    try:
        return repr(value)[:200]
    except ValueError:
        # Python does not write integers of more than 4300 digits.
        return "a value with a great integer"


def paths_of(value, path=()):
    """The paths to all parts of a value, itself included."""
    found = [path]
    if isinstance(value, (list, tuple)):
        for at, item in enumerate(value):
            found = found + paths_of(item, path + (at,))
    return found


def at_path(value, path):
    for at in path:
        value = value[at]
    return value


def changed(value, path, other):
    """The value with another part at the path."""
    if not path:
        return other
    items = list(value)
    items[path[0]] = changed(items[path[0]], path[1:], other)
    return tuple(items) if isinstance(value, tuple) else items
