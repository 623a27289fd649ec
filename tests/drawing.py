"""Hierarchies, extensions and choices that are drawn, the same ones in each run."""

from kindstocome.hierarchies import Kinds


class Draw:
    """A row of numbers that look drawn, told by its seed alone."""

    def __init__(self, seed):
        self.state = seed * 2654435761 + 12345

    def below(self, limit):
        self.state = (self.state * 6364136223846793005 + 1442695040888963407) & (2 ** 64 - 1)
        return (self.state >> 33) % limit

    def one(self, items):
        return items[self.below(len(items))]

    def some(self, items, at_most):
        """An ascending tuple of at most so many of these items."""
        left = list(items)
        out = []
        for step in range(self.below(min(at_most, len(left)) + 1)):
            out.append(left.pop(self.below(len(left))))
        return tuple(sorted(out))

    def kinds(self):
        many = 1 + self.below(6)
        several = self.below(3) > 0
        elders = tuple(self.some(range(kind), kind if several else 1) for kind in range(many))
        return Kinds(elders, self.some(range(many), many), self.some(range(many), many), several)

    def extension(self, kinds, many):
        """An extension of many new kinds, of fewer where all kinds are closed."""
        out = []
        for step in range(many):
            usable = list(kinds.opened()) + [len(kinds) + at for at in range(step)]
            if not usable:
                break
            elders = self.some(usable, len(usable) if kinds.several else 1)
            out.append(elders or (self.one(usable),))
        return tuple(out)

    def tree(self, kinds, tests):
        """A tree of so many triples, with few answers, so that sides are often the same."""
        if tests == 0:
            return self.below(3)
        left = self.below(tests)
        return (self.below(len(kinds)), self.tree(kinds, left), self.tree(kinds, tests - 1 - left))

    def rows(self, kinds, many):
        out = []
        for step in range(many):
            needs = tuple((kind, self.below(3) > 0) for kind in self.some(range(len(kinds)), 3))
            out.append((needs, self.below(3)))
        return tuple(out)

    def choice(self, kinds):
        if self.below(2):
            return self.tree(kinds, self.below(8))
        return self.rows(kinds, self.below(7))

    def offers(self, kinds):
        return tuple((kind, self.below(3)) for kind in self.some(range(len(kinds)), len(kinds)))

    def changed(self, kinds, choice):
        """A choice that is a little unlike another: with one test more, or without a row."""
        if isinstance(choice, int) or (choice and isinstance(choice[0], int)):
            return (self.below(len(kinds)), choice, self.tree(kinds, self.below(2)))
        at = self.below(len(choice) + 1)
        return choice[:at] + choice[at + 1:]

    def wish(self, kinds):
        """A wish of one of the five words."""
        word = self.one(("alike", "never", "clear", "full", "any order"))
        if word == "alike":
            one = self.choice(kinds)
            return (word, one, self.changed(kinds, one))
        if word == "never":
            return (word, self.choice(kinds), self.below(3))
        if word == "any order":
            return (word, self.rows(kinds, self.below(7)))
        return (word, self.offers(kinds))


def drawn(seed, times):
    """So many pairs of drawn kinds and the draw with which to go on."""
    draw = Draw(seed)
    return [(draw.kinds(), Draw(seed * 1000 + step)) for step in range(times)]
