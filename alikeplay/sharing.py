"""Sessions: runs that are played at several places at once."""

from alikeplay.asking import MOST_PLAYERS
from alikeplay.checks import require
from alikeplay.digests import digest
from alikeplay.errors import TooLarge
from alikeplay.rewinds import Rewind
from alikeplay.states import GREATEST_KEYS
from alikeplay.stories import MOST_STEPS
from alikeplay.whole import is_between

FARTHEST_AHEAD = 12


class Session:
    """A run at the seat of one player, with guesses in place of the keys that it does not know."""

    def __init__(self, game, seed, players, me):
        self.rewind = Rewind(game, seed)
        require(is_between(players, 1, MOST_PLAYERS), "players")
        require(is_between(me, 1, players), "me")
        self.me = me
        # For each player, the keys that are known, by steps.
        self.known = {player: {} for player in range(1, players + 1)}
        self.sure = 0
        self.again = 0

    def clock(self):
        """Return the number of the steps that were made."""
        return self.rewind.state()[0]

    def confirmed(self):
        """Return the last step up to which the keys of all players are known."""
        return self.sure

    def replayed(self):
        """Return the number of all steps that were played again."""
        return self.again

    def advance(self, keys):
        """Make a step with these keys of me, and return its report, or None if it has to wait."""
        require(is_between(keys, 0, GREATEST_KEYS), "keys")
        if self.clock() == MOST_STEPS:
            raise TooLarge("steps")
        if self.clock() - self.sure == FARTHEST_AHEAD:
            return None
        self.known[self.me][self.clock() + 1] = keys
        report = self._make_step()
        self._confirm()
        return report

    def hear(self, player, tick, keys):
        """Know the keys of another player at a step, and return the number of steps that were played again."""
        require(is_between(player, 1, len(self.known)) and player != self.me, "player")
        require(is_between(tick, 1, min(MOST_STEPS, self.clock() + FARTHEST_AHEAD)), "tick")
        known = self.known[player]
        require(is_between(keys, 0, GREATEST_KEYS) and known.get(tick, keys) == keys, "keys")
        known[tick] = keys
        count = 0
        if tick <= self.clock() and self.keys_at(tick)[player - 1] != keys:
            count = self.clock() - tick + 1
            self._play_again(count)
        self._confirm()
        return count

    def waiting(self):
        """Return the list of the players whose keys at the step behind the confirmed one are not known."""
        return [player for player in self.known if self.sure + 1 not in self.known[player]]

    def keys_at(self, tick):
        """Return the row of the keys that are used at the step."""
        require(is_between(tick, 1, self.clock()), "tick")
        return self.rewind.story()[tick - 1]

    def state(self):
        """Return the state behind the last step."""
        return self.rewind.state()

    def digest_at(self, tick):
        """Return the digest of the state at a tick up to which the session is confirmed."""
        require(is_between(tick, 0, self.sure), "tick")
        return digest(self.rewind.state_at(tick))

    def _make_step(self):
        """Make the next step with the keys that are known or guessed, and return its report."""
        tick = self.clock() + 1
        # Keys that were guessed before are the guess for the next step, too.
        guesses = (0, 0, 0, 0) if tick == 1 else self.keys_at(tick - 1)
        inputs = [(player, self.known[player].get(tick, guesses[player - 1])) for player in self.known]
        return self.rewind.step(tuple(inputs))

    def _play_again(self, count):
        """Make the last steps once more."""
        self.rewind.back(count)
        for _ in range(count):
            self._make_step()
        self.again += count

    def _confirm(self):
        """Find out up to which step all keys are known."""
        # The keys of me are known up to the clock only, so this ends there.
        while self.waiting() == []:
            self.sure += 1
