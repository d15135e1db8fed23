"""Flows: as many persons as possible outside by a minute, one group after the other.

A group is sent along a way through spaces and minutes. On this way it may take the place of
persons who were sent before, where these can stay longer or go elsewhere. A flow tells for
each space the last minute at which one more person at its doors could still get outside; if
nobody who is left is at the doors by then, no flow has more persons outside, and the minutes
behind these are cut times that show it.
"""


class Flow:
    """A flow through passages (here, there, rate), where `there` is None for an outside."""

    def __init__(self, persons, walks, passages):
        self.walks = walks
        self.passages = passages
        self.left = list(persons)
        # A row for each passage has those who begin to pass it in each minute; a row for each
        # space, behind these, has those who stay at its doors from one minute into the next.
        self.counts = [[] for _ in range(len(passages) + len(walks))]
        self.limits = [rate for _, _, rate in passages] + [sum(persons)] * len(walks)
        self.minute = 0
        self.due = []
        self.steps = [[] for _ in walks]

    def advance(self):
        """Go on to the next minute and send as many more persons as possible outside by it.

        As many as before are outside by each of the minutes before it.
        """
        self.minute += 1
        self.counts = [row + [0] for row in self.counts]
        begin = self._find()
        while begin is not None:
            self._send(begin)
            begin = self._find()

    def number(self):
        """How many persons the flow has outside."""
        return sum([sum(row) for row, (_, there, _) in zip(self.counts, self.passages) if there is None])

    def passing(self):
        """For each passage the row of those who begin to pass it, by minute."""
        return self.counts[:len(self.passages)]

    def cut_times(self):
        """Cut times whose worth is the number."""
        return tuple([self._last(space) + 1 for space in range(len(self.walks))])

    def _last(self, space):
        """The last minute known at which one more person at the doors can still get outside, or -1."""
        steps = self.steps[space]
        return steps[-1][0] if steps else -1

    def _find(self):
        """A space from which somebody who is left can still get outside, or None."""
        self.steps = [[] for _ in self.walks]
        self.due = []
        for at, (_, there, _) in enumerate(self.passages):
            if there is None:
                self._look_for_room(at, self.minute - 1)
        while self.due:
            space = self.due.pop(0)
            self._look_for_staying(space)
            last = self._last(space)
            if self.left[space] > 0 and self.walks[space] <= last:
                return space
            for at, (here, there, _) in enumerate(self.passages):
                if there == space:
                    self._look_for_room(at, last - 1 - self.walks[space])
                elif here == space and there is not None:
                    self._look_for_turning(at, last)
        return None

    def _look_for_room(self, at, latest):
        """One more person can begin to pass up to a minute, if there is room."""
        here, there, _ = self.passages[at]
        last = self._last(here)
        for minute in range(latest, last, -1):
            if self.counts[at][minute] < self.limits[at]:
                behind = None if there is None else minute + 1 + self.walks[there]
                self._note(here, minute, (at, minute, 1), (there, behind))
                return

    def _look_for_turning(self, at, latest):
        """One more person at the other side can take the place of one who does not pass then."""
        here, there, _ = self.passages[at]
        arriving = 1 + self.walks[there]
        too_early = max(-1, self._last(there) - arriving)
        for minute in range(latest, too_early, -1):
            if self.counts[at][minute] > 0:
                self._note(there, minute + arriving, (at, minute, -1), (here, minute))
                return

    def _look_for_staying(self, space):
        """One more person can take the place of one who was at the doors a minute before."""
        at = len(self.passages) + space
        last = self._last(space)
        while last + 1 < self.minute and self.counts[at][last] > 0:
            self._note(space, last + 1, (at, last, -1), (space, last))
            last += 1

    def _note(self, space, last, move, onward):
        """Keep a later last minute of a space, with the move that begins then and where it leads."""
        self.steps[space].append((last, move, onward))
        self.due.append(space)

    def _send(self, space):
        """Send as many of those who are left in a space as the way that was found lets."""
        moves = self._moves_from(space)
        many = min([self.left[space]] + [self._room(at, minute, sign) for at, minute, sign in moves])
        self.left[space] -= many
        for at, minute, sign in moves:
            self.counts[at][minute] += sign * many

    def _moves_from(self, space):
        """The moves (row, minute, sign) of the way that was found, a list."""
        found = []
        minute = self.walks[space]
        while space is not None:
            # The first step that is not too early was found first, so the way never comes back to it.
            last, move, onward = [step for step in self.steps[space] if step[0] >= minute][0]
            found += [(len(self.passages) + space, stay, 1) for stay in range(minute, last)]
            found.append(move)
            space, minute = onward
        return found

    def _room(self, at, minute, sign):
        """How many more, or less, there can be at this place of a row."""
        so_many = self.counts[at][minute]
        return self.limits[at] - so_many if sign > 0 else so_many
