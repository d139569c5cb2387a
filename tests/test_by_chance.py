"""Desks, documents and readers against a second, plain reading of the document, through edits and deeds by chance."""

import random
import unittest

from piecetold.chains import chain_start, deed_from
from piecetold.classes import all_classes, class_of, deed_of, is_class, is_deed, served
from piecetold.desks import Desk
from piecetold.documents import Document
from piecetold.errors import PieceError, TooMuch
from piecetold.readers import Reader, spliced
from plain import PlainDesk, PlainDocument, plain_class, plain_classes
from samples import latest_chain, lists_of, plain_deed, some_chain, some_messages, three_chain


def some_wrong_deed(source, chain, some_class):
    """A possible deed in which one program's part of a step is by chance."""
    deed = deed_of(chain, some_class)
    ranks = 1 + max([number for part in some_class[0] for number in part[1]] + [said[1] for said in some_class[1]])
    at, program = source.randrange(len(deed)), source.randrange(len(chain.programs))
    part = chain.programs[program]
    state = source.choice([k for k, many in enumerate(part.states) if many <= ranks])
    kept = tuple(sorted(source.sample(range(ranks), part.states[state])))
    writes = []
    for _ in range(source.randrange(4)):
        channel, signals = source.choice(part.channels)
        writes.append((channel, source.choice(signals), source.randrange(ranks)))
    parts = list(deed[at])
    parts[program] = (state, kept, tuple(writes))
    return deed[:at] + [tuple(parts)] + deed[at + 1:]


def answer(action, *arguments):
    """What a call returns, or the name of its error."""
    try:
        return action(*arguments)
    except PieceError as error:
        return "error " + error.__class__.__name__


class Pair:
    """A desk with two documents, and the same by the plain reading."""

    def __init__(self, test, seed, chain, liars, most_liars):
        self.test, self.source, self.chain, self.most_liars = test, random.Random(seed), chain, most_liars
        self.desk, self.plain_desk = Desk(chain, liars), PlainDesk(chain, liars)
        self.documents = [(Document(self.desk), PlainDocument(self.plain_desk)) for _ in range(2)]
        self.readers = [Reader(document) for document, _ in self.documents]
        self.remembered = [self.outputs(document) for document, _ in self.documents]

    def outputs(self, document):
        return {(at, name): document.output(at, name) for at, program in enumerate(self.chain.programs)
                for name, _ in program.channels}

    def both(self, pair, name, *arguments):
        """Call both, the package with lists or with tuples; the answers are the same."""
        shape = self.source.choice([lambda value: value, lists_of])
        told = answer(getattr(pair[0], name), *shape(arguments))
        expected = answer(getattr(pair[1], name), *arguments)
        self.test.assertEqual(told, expected, (name, arguments))
        return told

    def messages(self, most):
        return tuple(some_messages(self.source.randrange(10 ** 9), self.chain, self.source.randrange(most + 1), 4))

    def edit(self, pair):
        source = self.source
        numbers = [row[0] for row in pair[0].pieces()]
        piece = source.choice(numbers + [-1, 7]) if source.randrange(12) == 0 or not numbers else source.choice(numbers)
        place = source.randrange(-1, len(numbers) + 2) if source.randrange(9) == 0 else source.randrange(
            len(numbers) + 1)
        name = source.choice(["put", "put", "put", "drop", "change", "move", "cut", "cut", "glue", "undo", "redo"])
        most = 45 if source.randrange(20) == 0 else 5
        cases = {"put": (place, self.messages(most)), "change": (piece, self.messages(most)), "move": (piece, place),
                 "cut": (piece, source.randrange(5)), "drop": (piece,), "glue": (piece,)}
        self.both(pair, name, *cases.get(name, ()))

    def work(self, pair):
        source = self.source
        worker = source.randrange(5)
        some_class = pair[0].next_class(worker)
        if some_class is None or source.randrange(8) == 0:
            some_class = source.choice(self.desk.classes() + [class_of(
                self.chain, chain_start(self.chain), self.messages(3) or ((self.chain.programs[0].names[0], 0),))])
        deed = deed_of(self.chain, some_class)
        if worker < self.most_liars:
            deed = some_wrong_deed(source, self.chain, some_class)
            self.test.assertTrue(is_deed(self.chain, some_class, deed))
        self.both((self.desk, self.plain_desk), "tell", worker, some_class, deed)

    def guess(self):
        messages = self.messages(4)
        if messages:
            beginning = self.source.choice(self.documents)[0].front()
            self.both((self.desk, self.plain_desk), "guess", plain_class(beginning, messages))

    def check(self):
        for name in ("classes", "open_count", "named", "guesses"):
            self.both((self.desk, self.plain_desk), name)
        for some_class in self.desk.classes():
            self.both((self.desk, self.plain_desk), "kept", some_class)
        for at, pair in enumerate(self.documents):
            for name in ("pieces", "known", "front", "wanted"):
                self.both(pair, name)
            self.both(pair, "next_class", self.source.randrange(-1, 6))
            for key, messages in self.outputs(pair[0]).items():
                self.test.assertEqual(messages, pair[1].output(*key))
                if messages:
                    self.both(pair, "origin", *key, self.source.randrange(len(messages)))
                self.both(pair, "origin", *key, len(messages))
            if self.source.randrange(3) == 0:
                self.read(at)

    def read(self, at):
        for program, channel, change in self.readers[at].changes():
            before = self.remembered[at][(program, channel)]
            self.remembered[at][(program, channel)] = spliced(before, change)
        self.test.assertEqual(self.remembered[at], self.outputs(self.documents[at][0]))
        self.test.assertEqual(self.readers[at].changes(), [])

    def run(self, turns):
        for _ in range(turns):
            pair = self.source.choice(self.documents)
            turn = self.source.randrange(10)
            if turn < 4:
                self.edit(pair)
            elif turn < 9:
                self.work(pair)
            else:
                self.guess()
            self.check()


class ByChanceTest(unittest.TestCase):
    def chains(self, seed):
        return [latest_chain(), three_chain(), some_chain(seed)][seed % 3]

    def test_as_many_liars_as_may_lie(self):
        for seed in range(24):
            with self.subTest(seed):
                liars = seed % 4
                pair = Pair(self, seed, self.chains(seed), liars, liars)
                pair.run(60)
                self.assertTrue(set(pair.desk.named()) <= set(range(liars)))
                for some_class in pair.desk.classes():
                    self.assertEqual(pair.desk.kept(some_class), plain_deed(pair.chain, *some_class))
                for document, _ in pair.documents:
                    self.one_run(document)

    def one_run(self, document):
        """What is known is what one run writes for the first pieces."""
        chain = document.desk.chain
        pieces = document.pieces()[:document.known()[0]]
        deed = plain_deed(chain, chain_start(chain), [message for _, messages in pieces for message in messages])
        for at, program in enumerate(chain.programs):
            for channel, _ in program.channels:
                expected = [out[1:] for done in deed for out in done[at][2] if out[0] == channel]
                self.assertEqual(document.output(at, channel), expected)
        self.assertEqual(len(pieces) == len(document.pieces()), document.wanted() is None)

    def test_more_liars_than_may_lie(self):
        for seed in range(36):
            with self.subTest(seed):
                Pair(self, seed + 100, self.chains(seed), seed % 2, 3 + seed % 3).run(60)

    def test_classes_and_deeds(self):
        for seed in range(60):
            chain = some_chain(seed)
            for many in (1, 2, 7, 40):
                messages = some_messages(seed, chain, many, 10)
                first = deed_from(chain, chain_start(chain), some_messages(seed + 1, chain, 20, 8))
                beginning = tuple(part[:2] for part in first[-1])
                some_class = class_of(chain, beginning, messages)
                self.assertEqual(some_class, plain_class(beginning, messages))
                self.assertTrue(is_class(chain, some_class))
                self.assertEqual(class_of(chain, *some_class), some_class)
                deed = deed_of(chain, some_class)
                self.assertEqual(deed, plain_deed(chain, *some_class))
                self.assertTrue(is_deed(chain, some_class, deed))
                self.assertEqual(served(chain, beginning, messages, deed), plain_deed(chain, beginning, messages))

    def test_all_classes(self):
        found = 0
        for seed in range(80):
            chain = some_chain(seed)
            messages = some_messages(seed, chain, 1 + seed % 5, 2)
            if len(chain.programs) == 1:
                expected = plain_classes(chain.programs[0].states, messages)
                if len(expected) > 500:
                    with self.assertRaises(TooMuch):
                        all_classes(chain, messages)
                else:
                    self.assertEqual(all_classes(chain, messages), expected)
                    found += 1
        self.assertGreater(found, 15)


if __name__ == "__main__":
    unittest.main()
