"""Desks: what workers tell, and the deeds that are kept because enough of them agree."""

from piecetold.classes import class_from, demand_deed, tuples_of
from piecetold.errors import InvalidDesk, InvalidWorker, ToldOther
from piecetold.programs import is_index

MOST_LIARS = 3
WORKERS = 100


def demand_worker(value):
    """Raise InvalidWorker unless the value is a worker."""
    if not is_index(value, WORKERS):
        raise InvalidWorker("a worker is an integer from 0 to 99")


class Desk:
    """Keeps a deed as soon as more workers than may lie have told it."""

    def __init__(self, chain, liars):
        """Begin without deeds and guesses. Raises InvalidDesk."""
        if not is_index(liars, MOST_LIARS + 1):
            raise InvalidDesk("the number of workers who may lie is an integer from 0 to 3")
        self.chain = chain
        self.liars = liars
        self.deeds = {}
        self.told = {}
        self.caught = {}
        self.likely = {}

    def tell(self, worker, some_class, deed):
        """Take what a worker tells, and return what became of it.

        Raises InvalidWorker, then InvalidClass, then InvalidDeed, then ToldOther.
        """
        demand_worker(worker)
        found = class_from(self.chain, some_class)
        demand_deed(self.chain, found, deed)
        steps = tuples_of(deed)
        if found in self.deeds:
            return self.judge(worker, found, steps)
        told = self.told.get(found, {})
        if worker in told:
            if told[worker] != steps:
                raise ToldOther("the worker has told another deed for the class before")
            return "again"
        return self.take(worker, found, steps)

    def judge(self, worker, some_class, deed):
        """Compare what a worker tells with the kept deed: who told another one is named."""
        if self.deeds[some_class] == deed:
            return "known"
        self.caught[worker] = True
        return "wrong"

    def take(self, worker, some_class, deed):
        """Add a deed to what is open for its class, and keep it if enough workers have told it."""
        told = self.told.setdefault(some_class, {})
        told[worker] = deed
        if len([other for other in told.values() if other == deed]) <= self.liars:
            return "told"
        self.keep(some_class, deed)
        return "taken"

    def keep(self, some_class, deed):
        """Keep a deed for a class that has none: nothing is open for it, and who told another one is named."""
        self.deeds[some_class] = deed
        self.likely.pop(some_class, None)
        told = self.told.pop(some_class, {})
        for worker, other in told.items():
            if other != deed:
                self.caught[worker] = True

    def kept(self, some_class):
        """Return the kept deed, a list, or None. Raises InvalidClass."""
        deed = self.kept_for(class_from(self.chain, some_class))
        return None if deed is None else list(deed)

    def kept_for(self, some_class):
        """Return the deed that is kept for a right class, a tuple, or None."""
        return self.deeds.get(some_class)

    def kept_count(self):
        """Return how many deeds are kept."""
        return len(self.deeds)

    def classes(self):
        """Return the list of the classes for which a deed is kept, in the order in which they were kept."""
        return list(self.deeds)

    def open_count(self):
        """Return how many deeds are open."""
        return sum([len(told) for told in self.told.values()])

    def named(self):
        """Return the list of the named workers, ascending."""
        return sorted(self.caught)

    def guess(self, some_class):
        """Add a guess unless a deed is kept for it or it is a guess already. Raises InvalidClass."""
        found = class_from(self.chain, some_class)
        if found not in self.deeds:
            self.likely[found] = True

    def guesses(self):
        """Return the list of the guesses that count, in the order in which they came."""
        return list(self.likely)

    def can_do(self, worker, some_class):
        """Tell whether a worker can do a right class."""
        return some_class not in self.deeds and worker not in self.told.get(some_class, {})
