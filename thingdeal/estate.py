"""An estate, to which things come, which heirs leave and which heirs join."""

from thingdeal.dealing import dealt
from thingdeal.errors import BadHeir, Full
from thingdeal.giving import awarded
from thingdeal.worths import MOST_HEIRS, MOST_THINGS, is_number_below, need_heir, need_worths


class Estate:
    """Heirs and things, all of which are given."""

    def __init__(self, heirs):
        if not is_number_below(heirs, MOST_HEIRS + 1) or heirs == 0:
            raise BadHeir("an estate begins with 1 to 8 heirs")
        self._rows = [[] for _ in range(heirs)]
        self._held = [[] for _ in range(heirs)]

    def come(self, worths):
        """Give a thing that comes, by each heir's worth of it; tell its number."""
        need_worths(worths, len(self._rows))
        thing = len(self._rows[0])
        if thing == MOST_THINGS:
            raise Full("an estate has at most 40 things")
        self._rows = [row + [added] for row, added in zip(self._rows, worths)]
        self._held = awarded(self._rows, self._held, thing)
        return thing

    def go(self, heir):
        """Let an heir go, and give its things again."""
        need_heir(self._rows, heir)
        if len(self._rows) == 1:
            raise BadHeir("the only heir stays")
        rows = self._rows[:heir] + self._rows[heir + 1:]
        held = self._held[:heir] + self._held[heir + 1:]
        for thing in self._held[heir]:
            held = awarded(rows, held, thing)
        self._rows = rows
        self._held = held

    def join(self, worths):
        """Deal all anew with one more heir, by its worth of each thing; tell its number."""
        need_worths(worths, len(self._rows[0]))
        heir = len(self._rows)
        if heir == MOST_HEIRS:
            raise Full("an estate has at most 8 heirs")
        self._rows = self._rows + [list(worths)]
        self._held = dealt(self._rows)
        return heir

    def shares(self):
        """The shares, as they are."""
        return [list(share) for share in self._held]

    def table(self):
        """The table of worths, as it is."""
        return [list(row) for row in self._rows]
