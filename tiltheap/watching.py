"""Observers who do not know which word is repeated."""

from tiltheap.checks import check_marble, check_number, check_place, is_number
from tiltheap.errors import Contradiction, InvalidNumber, InvalidPlace
from tiltheap.rounds import MAX_ROUNDS, after_rounds, marble_after

MAX_LIMIT = 200


class WordObserver:
    """An observer who knows a tray, and that one of some words is repeated."""

    def __init__(self, tray, *words):
        if not words:
            raise InvalidNumber("an observer needs at least one word")
        self._tray = tray
        self._words = words
        self._candidates = tuple(range(len(words)))
        self._observations = ()

    @classmethod
    def from_log(cls, tray, words, observations):
        """Return an observer after a list of observations."""
        observer = cls(tray, *words)
        for name, *details in observations:
            if name == "see_marble":
                observer.see_marble(*details)
            else:
                observer.see_row(*details)
        return observer

    @property
    def candidates(self):
        """The list of the numbers of all words that remain possible."""
        return list(self._candidates)

    @property
    def observations(self):
        """The list of all accepted observations."""
        return list(self._observations)

    def see_marble(self, rounds, marble, place):
        """Record where a marble lies after some rounds, and return how many words remain."""
        check_number(rounds, MAX_ROUNDS)
        check_marble(self._tray, marble)
        check_place(self._tray, place)
        remaining = [
            number for number in self._candidates
            if marble_after(self._tray, marble, self._words[number], rounds) == place
        ]
        return self._accept(("see_marble", rounds, marble, place), remaining)

    def see_row(self, rounds, row, cells):
        """Record how a row reads after some rounds, and return how many words remain."""
        check_number(rounds, MAX_ROUNDS)
        if not is_number(row, self._tray.height - 1):
            raise InvalidPlace("no such row on the tray")
        remaining = [
            number for number in self._candidates
            if after_rounds(self._tray, self._words[number], rounds).rows[row] == cells
        ]
        return self._accept(("see_row", rounds, row, cells), remaining)

    def trays_after(self, rounds):
        """Return the list of all different trays there can be after some rounds."""
        check_number(rounds, MAX_ROUNDS)
        trays = [after_rounds(self._tray, self._words[number], rounds) for number in self._candidates]
        # A dict keeps its keys in the order in which they come first.
        different = {tray.rows: tray for tray in trays}
        return list(different.values())

    def telling_round(self, limit):
        """Return after how many rounds, up to a limit, there can be most different trays first."""
        check_number(limit, MAX_LIMIT)
        words = [self._words[number] for number in self._candidates]
        trays = [self._tray] * len(words)
        telling = most = 0
        for rounds in range(limit + 1):
            many = len({tray.rows for tray in trays})
            if many > most:
                telling, most = rounds, many
            trays = [tray >> word for tray, word in zip(trays, words)]
        return telling

    def _accept(self, observation, remaining):
        """Keep an observation and the words that it leaves, and return how many these are."""
        if not remaining:
            raise Contradiction("no word would remain possible")
        self._candidates = tuple(remaining)
        self._observations = (*self._observations, observation)
        return len(remaining)


def surely_at(observer, rounds):
    """Return a dict of the marbles that lie at the same place in all trays there can be."""
    trays = observer.trays_after(rounds)
    first = trays[0]
    sure = {}
    for marble in first.marbles:
        place = first(marble)
        if all([tray(marble) == place for tray in trays]):
            sure[marble] = place
    return sure
