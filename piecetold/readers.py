"""Readers: what changed of the known messages since it was asked last."""


def common_prefix(first, second):
    """Return how many items two lists have in common at their beginnings."""
    many = 0
    for one, other in zip(first, second):
        if one != other:
            return many
        many += 1
    return many


def splice(first, second):
    """Return the splice from the first list of messages to the second one."""
    old = [tuple(message) for message in first]
    new = [tuple(message) for message in second]
    prefix = common_prefix(old, new)
    # The suffix is looked for only behind the prefix, so that the two never overlap.
    old = old[prefix:]
    new = new[prefix:]
    suffix = common_prefix(old[::-1], new[::-1])
    return (prefix, len(old) - suffix, new[:len(new) - suffix])


def spliced(messages, change):
    """Return the list that a splice makes of a list of messages."""
    place, removed, inserted = change
    old = [tuple(message) for message in messages]
    return old[:place] + [tuple(message) for message in inserted] + old[place + removed:]


def outputs_of(document):
    """Return a triple of a program, a channel and what is known of it, for each channel of each program."""
    return [
        (at, pair[0], document.output(at, pair[0]))
        for at, program in enumerate(document.desk.chain.programs)
        for pair in program.channels
    ]


class Reader:
    """Remembers what was known of each channel, and tells what has changed since."""

    def __init__(self, document):
        """Remember what is known now."""
        self.document = document
        self.remembered = outputs_of(document)

    def changes(self):
        """Return the list of the changes since the reader was made or last asked."""
        before = self.remembered
        self.remembered = outputs_of(self.document)
        return [
            (new[0], new[1], splice(old[2], new[2])) for old, new in zip(before, self.remembered) if old[2] != new[2]
        ]
