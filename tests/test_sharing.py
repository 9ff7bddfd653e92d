"""Points 92 to 99: runs that are played at several places at once."""

import itertools
import unittest

from alikeplay.digests import digest
from alikeplay.errors import BadValue, PlayError, TooLarge
from alikeplay.games import Game, first_state, step
from alikeplay.records import run
from alikeplay.sharing import Session
from helpers import NO_INTEGERS, Cases, check_arguments, shown
from test_games import BALL, NO_GAMES, NO_SEEDS
from test_records import slow_states
from worlds import game_of, some_game

# Things whose ways depend on the keys of all players and on dice.
BUSY = game_of((1, "while 1 { do @go(@key(1, 0) - @key(2, 0) + 2 * @key(3, 1) - @key(4, 2), -@roll(9)); "
                   "do @say(@x(1)); do @score(@key(1, 1) + 3 * @key(2, 1) + 5 * @key(3, 0)); wait; }"), (None, None))


class SlowSession:
    """What a session is asked, found out from what it knows alone."""

    def __init__(self, game, seed, players, me):
        self.game, self.seed, self.players, self.me = game, seed, players, me
        self.known = {}
        self.clock = 0
        self.again = 0

    def used(self, player, tick):
        """Point 93, word by word."""
        earlier = [step for who, step in self.known if who == player and step <= tick]
        return self.known[player, max(earlier)] if earlier else 0

    def row(self, tick):
        return tuple(self.used(player, tick) if player <= self.players else 0 for player in (1, 2, 3, 4))

    def story(self):
        return tuple(self.row(tick) for tick in range(1, self.clock + 1))

    def missing(self, tick):
        return [player for player in range(1, self.players + 1) if (player, tick) not in self.known]

    def confirmed(self):
        return max(c for c in range(self.clock + 1) if not any(self.missing(tick) for tick in range(1, c + 1)))

    def advance(self, keys):
        if self.clock - self.confirmed() >= 12:
            return None
        self.clock += 1
        self.known[self.me, self.clock] = keys
        before = run(self.game, self.seed, self.story()[:-1])
        return step(self.game, before, tuple(enumerate(self.row(self.clock), 1)))[1]

    def hear(self, player, tick, keys):
        count = 0
        if tick <= self.clock and self.used(player, tick) != keys:
            count = self.clock - tick + 1
        self.known[player, tick] = keys
        self.again += count
        return count

    def all(self):
        """Return all that a session can be asked."""
        confirmed = self.confirmed()
        states = slow_states(self.game, self.seed, self.story())
        return {
            "clock": self.clock, "confirmed": confirmed, "replayed": self.again, "state": states[-1],
            "waiting": self.missing(confirmed + 1), "keys": list(self.story()),
            "digests": [digest(state) for state in states[:confirmed + 1]],
        }


def asked(session):
    """Ask a session for all that it tells."""
    clock, confirmed = session.clock(), session.confirmed()
    return {
        "clock": clock, "confirmed": confirmed, "replayed": session.replayed(), "state": session.state(),
        "waiting": session.waiting(), "keys": [session.keys_at(tick) for tick in range(1, clock + 1)],
        "digests": [session.digest_at(tick) for tick in range(confirmed + 1)],
    }


def heard(session, *facts):
    return [session.hear(*fact) for fact in facts]


def advanced(session, *keys):
    return [session.advance(key) for key in keys]


class SessionTests(unittest.TestCase):
    def check_fails(self, error, told, call, *arguments):
        with self.assertRaises(PlayError) as caught:
            call(*arguments)
        self.assertIs(type(caught.exception), error)
        self.assertEqual(vars(caught.exception), {"name" if error is BadValue else "what": told})

    def test_document(self):
        session = Session(BALL, 5, 2, 1)
        self.assertEqual((session.advance(1), session.advance(1), session.clock(), session.confirmed()), ((), (), 2, 0))
        self.assertEqual((session.hear(2, 1, 0), session.confirmed(), session.hear(2, 2, 4), session.confirmed()),
                         (0, 1, 1, 2))
        self.assertEqual((session.keys_at(2), session.replayed(), session.waiting()), ((1, 4, 0, 0), 1, [1, 2]))

    def test_a_new_session(self):
        for players in (1, 2, 3, 4):
            for me in range(1, players + 1):
                session = Session(BUSY, 7, players, me)
                self.assertEqual(asked(session), {
                    "clock": 0, "confirmed": 0, "replayed": 0, "state": first_state(BUSY, 7),
                    "waiting": list(range(1, players + 1)), "keys": [], "digests": [digest(first_state(BUSY, 7))]})

    def test_one_player_never_waits(self):
        session = Session(BUSY, 1000000, 1, 1)
        for tick in range(1, 41):
            self.assertIsNotNone(session.advance(tick % 16))
            self.assertEqual((session.clock(), session.confirmed(), session.waiting()), (tick, tick, [1]))
        story = tuple((tick % 16, 0, 0, 0) for tick in range(1, 41))
        self.assertEqual([session.keys_at(tick) for tick in range(1, 41)], list(story))
        self.assertEqual((session.state(), session.replayed()), (run(BUSY, 1000000, story), 0))

    def test_players_beyond_have_no_keys(self):
        session = Session(BUSY, 5, 3, 3)
        advanced(session, 15)
        heard(session, (1, 1, 14), (2, 1, 13))
        self.assertEqual(session.keys_at(1), (14, 13, 15, 0))

    def test_reports(self):
        """The report is the one of the step with the keys that are used when it is made."""
        session = Session(BUSY, 5, 2, 1)
        reports = advanced(session, 1, 0)
        state, expected = first_state(BUSY, 5), []
        for row in ((1, 0, 0, 0), (0, 0, 0, 0)):
            state, report = step(BUSY, state, tuple(enumerate(row, 1)))
            expected.append(report)
        self.assertEqual((reports, session.state()), (expected, state))
        self.assertTrue(all(report for report in reports))
        heard(session, (2, 1, 1), (2, 2, 3))
        before = run(BUSY, 5, ((1, 1, 0, 0), (0, 3, 0, 0)))
        self.assertEqual(session.state(), before)
        self.assertEqual(session.advance(2), step(BUSY, before, ((1, 2), (2, 3)))[1])

    def test_guesses(self):
        session = Session(BALL, 5, 2, 2)
        heard(session, (1, 2, 6), (1, 5, 9))
        advanced(session, *[1] * 8)
        self.assertEqual([session.keys_at(tick)[0] for tick in range(1, 9)], [0, 6, 6, 6, 9, 9, 9, 9])
        self.assertEqual(session.hear(1, 3, 4), 6)
        self.assertEqual([session.keys_at(tick)[0] for tick in range(1, 9)], [0, 6, 4, 4, 9, 9, 9, 9])
        self.assertEqual(session.hear(1, 1, 3), 8)
        self.assertEqual([session.keys_at(tick)[0] for tick in range(1, 9)], [3, 6, 4, 4, 9, 9, 9, 9])
        self.assertEqual(session.hear(1, 8, 0), 1)
        self.assertEqual([session.keys_at(tick)[0] for tick in range(1, 9)], [3, 6, 4, 4, 9, 9, 9, 0])
        self.assertEqual((session.hear(1, 4, 4), session.hear(1, 7, 9), session.replayed()), (0, 0, 15))
        self.assertEqual((session.confirmed(), session.waiting()), (5, [1]))
        self.assertEqual((session.hear(1, 6, 9), session.confirmed(), session.waiting()), (0, 8, [1, 2]))

    def test_what_is_counted(self):
        """All steps up to the clock are counted, also those whose keys are known already."""
        session = Session(BUSY, 5, 3, 2)
        advanced(session, *[0] * 10)
        self.assertEqual(heard(session, (1, 10, 0), (1, 4, 0), (3, 2, 0)), [0, 0, 0])
        self.assertEqual(heard(session, (1, 5, 1), (1, 9, 1), (1, 8, 2), (3, 1, 1)), [6, 0, 3, 10])
        self.assertEqual(session.replayed(), 19)
        self.assertEqual(heard(session, (1, 5, 1), (3, 1, 1), (3, 1, 1)), [0, 0, 0])
        self.assertEqual(session.replayed(), 19)
        self.assertEqual([session.keys_at(tick) for tick in range(1, 11)], [
            (0, 0, 1, 0), (0, 0, 0, 0), (0, 0, 0, 0), (0, 0, 0, 0), (1, 0, 0, 0), (1, 0, 0, 0), (1, 0, 0, 0),
            (2, 0, 0, 0), (1, 0, 0, 0), (0, 0, 0, 0)])

    def test_keys_for_steps_that_come(self):
        session = Session(BUSY, 5, 2, 1)
        self.assertEqual(heard(session, *[(2, tick, tick) for tick in range(12, 0, -1)]), [0] * 12)
        self.assertEqual((session.confirmed(), session.waiting()), (0, [1]))
        self.check_fails(BadValue, "tick", session.hear, 2, 13, 0)
        for tick in range(1, 13):
            self.assertIsNotNone(session.advance(0))
            self.assertEqual((session.confirmed(), session.keys_at(tick)), (tick, (0, tick, 0, 0)))
            self.assertEqual(session.hear(2, tick + 12, 3), 0)
            self.check_fails(BadValue, "tick", session.hear, 2, tick + 13, 3)
        self.assertEqual(session.replayed(), 0)

    def test_twelve_steps_ahead(self):
        session = Session(BUSY, 5, 2, 1)
        reports = advanced(session, *range(12))
        self.assertTrue(all(report is not None for report in reports))
        before = asked(session)
        self.assertEqual((before["clock"], before["confirmed"], before["waiting"]), (12, 0, [2]))
        for keys in (0, 15):
            self.assertIsNone(session.advance(keys))
            self.assertEqual(asked(session), before)
        self.check_fails(BadValue, "keys", session.advance, 16)
        self.assertEqual(session.hear(2, 2, 0), 0)
        self.assertIsNone(session.advance(1))
        self.assertEqual(session.hear(2, 1, 5), 12)
        self.assertEqual((session.confirmed(), session.waiting()), (2, [2]))
        self.assertEqual([report is None for report in advanced(session, 1, 1, 1, 1)], [False, False, True, True])
        self.assertEqual((session.clock(), session.keys_at(14)), (14, (1, 0, 0, 0)))
        heard(session, *[(2, tick, 0) for tick in range(3, 27)])
        self.assertEqual((session.clock(), session.confirmed(), session.waiting()), (14, 14, [1]))

    def test_the_last_step(self):
        session = Session(BALL, 5, 2, 1)
        for tick in range(1, 601):
            self.assertEqual(session.hear(2, tick, tick % 16), 0)
            self.assertEqual(session.advance(3), ())
        self.assertEqual((session.clock(), session.confirmed(), session.waiting()), (600, 600, [1, 2]))
        before = asked(session)
        self.check_fails(TooLarge, "steps", session.advance, 3)
        self.check_fails(BadValue, "keys", session.advance, True)
        self.check_fails(BadValue, "tick", session.hear, 2, 601, 0)
        self.assertEqual(session.hear(2, 600, 8), 0)
        self.check_fails(BadValue, "keys", session.hear, 2, 600, 9)
        self.assertEqual(asked(session), before)
        story = tuple((3, tick % 16, 0, 0) for tick in range(1, 601))
        self.assertEqual(session.state(), run(BALL, 5, story))
        self.assertEqual(session.digest_at(600), digest(session.state()))

    def test_the_last_steps_that_wait(self):
        session = Session(BALL, 5, 2, 2)
        for tick in range(1, 601):
            if tick <= 588:
                heard(session, (1, tick, 1))
            self.assertEqual(session.advance(3), ())
        self.assertEqual((session.clock(), session.confirmed(), session.waiting()), (600, 588, [1]))
        self.check_fails(TooLarge, "steps", session.advance, 3)
        self.check_fails(BadValue, "tick", session.hear, 1, 601, 1)
        self.check_fails(BadValue, "tick", session.digest_at, 589)
        self.assertEqual(heard(session, (1, 600, 1), (1, 589, 2)), [0, 12])
        self.assertEqual((session.keys_at(589), session.keys_at(599), session.keys_at(600)),
                         ((2, 3, 0, 0), (2, 3, 0, 0), (1, 3, 0, 0)))

    def test_asked_at_bounds(self):
        session = Session(BUSY, 5, 2, 1)
        advanced(session, 1, 2, 3)
        heard(session, (2, 1, 4), (2, 2, 0))
        story = ((1, 4, 0, 0), (2, 0, 0, 0), (3, 0, 0, 0))
        self.assertEqual([session.keys_at(tick) for tick in (1, 2, 3)], list(story))
        self.assertEqual([session.digest_at(tick) for tick in (0, 1, 2)],
                         [digest(run(BUSY, 5, story[:tick])) for tick in (0, 1, 2)])
        for tick in (0, 4, -1, 600, *NO_INTEGERS):
            self.check_fails(BadValue, "tick", session.keys_at, tick)
        for tick in (-1, 3, 4, *NO_INTEGERS):
            self.check_fails(BadValue, "tick", session.digest_at, tick)

    def test_lists_are_new(self):
        session = Session(BUSY, 5, 2, 1)
        session.waiting().clear()
        self.assertEqual(session.waiting(), [1, 2])
        session.advance(1)
        session.waiting().append(5)
        self.assertEqual((session.waiting(), session.confirmed()), ([2], 0))

    def test_the_game_is_copied(self):
        game = Game(grid=BALL.grid, kinds=BALL.kinds, things=BALL.things)
        session = Session(game, 5, 2, 1)
        game.grid, game.kinds, game.things = (1, 1, "#"), (), ()
        advanced(session, 1, 1)
        self.assertEqual(session.hear(2, 1, 1), 2)
        self.assertEqual(session.state(), run(BALL, 5, ((1, 1, 0, 0),) * 2))

    def test_two_sessions(self):
        first, second = Session(BALL, 5, 2, 1), Session(BALL, 5, 2, 1)
        advanced(first, 1, 2)
        heard(first, (2, 1, 1))
        self.assertEqual((second.clock(), second.waiting(), second.replayed()), (0, [1, 2], 0))


class ArgumentTests(unittest.TestCase):
    def test_new(self):
        wrong = (("game", NO_GAMES), ("seed", NO_SEEDS), ("players", (0, 5, -1, *NO_INTEGERS)), ("me", (0, 5, 3, -1, *NO_INTEGERS)))
        check_arguments(self, Session, (BALL, 0, 2, 2), wrong)
        for players in (1, 2, 3, 4):
            for me in (0, players + 1, True):
                with self.assertRaises(BadValue) as caught:
                    Session(BALL, 0, players, me)
                self.assertEqual(caught.exception.name, "me")

    def check_unchanged(self, session, call, wrong, *arguments):
        before, kept = asked(session), shown(session)
        for index, (name, values) in enumerate(wrong):
            behind = [arguments[index + 1:], tuple(rows[0] for _, rows in wrong[index + 1:])]
            for value, more in itertools.product(values, behind):
                with self.assertRaises(BadValue) as caught:
                    call(*arguments[:index], value, *more)
                self.assertEqual(caught.exception.name, name, (arguments[:index], value, more))
        self.assertEqual((asked(session), shown(session)), (before, kept))

    def test_hear_and_advance(self):
        for players, me in ((2, 1), (2, 2), (4, 1), (4, 4), (3, 2)):
            session = Session(BUSY, 5, players, me)
            other = 1 if me > 1 else 2
            advanced(session, 1, 2, 3, 4, 5)
            heard(session, (other, 2, 7), (other, 9, 8))
            wrong_players = (me, 0, players + 1, -1, *NO_INTEGERS)
            wrong_ticks = (0, 18, -1, 601, *NO_INTEGERS)
            wrong_keys = (-1, 16, *NO_INTEGERS)
            self.check_unchanged(session, session.advance, (("keys", wrong_keys),), 0)
            wrong = (("player", wrong_players), ("tick", wrong_ticks), ("keys", wrong_keys))
            for tick in (1, 5, 17):
                self.check_unchanged(session, session.hear, wrong, other, tick, 0)
            for tick, keys in ((2, 7), (9, 8)):
                wrong_keys = (*[some for some in range(16) if some != keys], -1, 16, *NO_INTEGERS)
                self.check_unchanged(session, session.hear, (*wrong[:2], ("keys", wrong_keys)), other, tick, keys)
                self.assertEqual(session.hear(other, tick, keys), 0)
            self.assertEqual(heard(session, (other, 17, 15), (other, 1, 0)), [0, 0])

    def test_one_player_hears_nobody(self):
        session = Session(BALL, 5, 1, 1)
        for player in (1, 2, 0):
            for more in ((1, 1), (0, 99)):
                with self.assertRaises(BadValue) as caught:
                    session.hear(player, *more)
                self.assertEqual(caught.exception.name, "player")


class ModelTests(unittest.TestCase):
    def test_keys_in_every_order(self):
        """Whatever order the keys of two other players are heard in, the run is that of the known keys."""
        facts = [(1, 1, 5), (1, 2, 5), (1, 3, 0), (3, 1, 2), (3, 2, 3)]
        digests = []
        for order in itertools.permutations(facts):
            session, slow = Session(BUSY, 3, 3, 2), SlowSession(BUSY, 3, 3, 2)
            advanced(session, 1, 2)
            slow.advance(1), slow.advance(2)
            counts = heard(session, *order)
            self.assertEqual(counts, [slow.hear(*fact) for fact in order])
            self.assertEqual((session.replayed(), session.confirmed()), (sum(counts), 2))
            self.assertEqual(session.state(), run(BUSY, 3, ((5, 1, 2, 0), (5, 2, 3, 0))))
            digests.append((session.digest_at(1), session.digest_at(2)))
        self.assertEqual(len(set(digests)), 1)

    def test_sessions_with_drawn_calls(self):
        cases = Cases(101)
        for seed in range(40):
            game = cases.one((BALL, BUSY, BUSY, some_game(cases)))
            players = cases.whole(1, 4)
            me = cases.whole(1, players)
            session, slow = Session(game, seed, players, me), SlowSession(game, seed, players, me)
            truth = {}
            for turn in range(30):
                player, tick = cases.whole(1, players), max(1, slow.clock + cases.whole(-13, 12))
                if player == me or players == 1 or cases.whole(0, 3) == 0:
                    keys = cases.whole(0, 3)
                    self.assertEqual(session.advance(keys), slow.advance(keys))
                elif cases.whole(0, 3) == 0:
                    lacking = [(who, slow.confirmed() + 1) for who in slow.missing(slow.confirmed() + 1) if who != me]
                    for fact in lacking:
                        keys = truth.setdefault(fact, cases.whole(0, 1))
                        self.assertEqual(session.hear(*fact, keys), slow.hear(*fact, keys))
                else:
                    keys = truth.setdefault((player, tick), cases.whole(0, 1))
                    self.assertEqual(session.hear(player, tick, keys), slow.hear(player, tick, keys))
                if turn % 7 == 6:
                    self.assertEqual(asked(session), slow.all())
            self.assertEqual(asked(session), slow.all())

    def test_right_guesses_are_never_played_again(self):
        cases = Cases(102)
        session = Session(BUSY, 8, 2, 1)
        keys = 0
        for tick in range(1, 60):
            keys = cases.whole(0, 15) if tick % 9 == 0 else keys
            wrong = int(session.clock() > 0 and tick % 9 == 0 and session.keys_at(tick - 1)[1] != keys)
            advanced(session, 1)
            self.assertEqual(session.hear(2, tick, keys), wrong)

    def test_all_seats(self):
        """Point 95: sessions that exchange their keys with drawn delays have the same digests."""
        cases = Cases(103)
        for seed in range(8):
            players = 2 + seed % 3
            game = BUSY if seed % 2 else some_game(cases)
            seats = {me: Session(game, seed, players, me) for me in range(1, players + 1)}
            sent, story, steps = [], {}, 45
            while any(session.clock() < steps for session in seats.values()):
                for me, session in seats.items():
                    if session.clock() < steps and cases.whole(0, 2):
                        keys = cases.whole(0, 15) if cases.whole(0, 3) == 0 else story.get((me, session.clock()), 0)
                        if session.advance(keys) is not None:
                            story[me, session.clock()] = keys
                            sent += [(other, me, session.clock(), keys) for other in seats if other != me]
                        self.assertLessEqual(session.clock() - session.confirmed(), 12)
                for _ in range(cases.whole(0, 6)):
                    self.deliver(cases, seats, sent)
            while sent:
                self.deliver(cases, seats, sent)
            rows = tuple(tuple(story.get((player, tick), 0) for player in (1, 2, 3, 4)) for tick in range(1, steps + 1))
            digests = [digest(state) for state in slow_states(game, seed, rows)]
            for session in seats.values():
                self.assertEqual((session.clock(), session.confirmed()), (steps, steps))
                self.assertEqual([session.digest_at(tick) for tick in range(steps + 1)], digests)
                self.assertEqual(session.state(), run(game, seed, rows))

    def deliver(self, cases, seats, sent):
        """Let one of the first messages arrive, if it is not for a step too far ahead of the clock."""
        if sent:
            index = cases.whole(0, min(len(sent), 12) - 1)
            to, player, tick, keys = sent[index]
            if tick <= seats[to].clock() + 12:
                del sent[index]
                used = seats[to].keys_at(tick)[player - 1] if tick <= seats[to].clock() else keys
                count = seats[to].clock() - tick + 1 if used != keys else 0
                self.assertEqual(seats[to].hear(player, tick, keys), count)


if __name__ == "__main__":
    unittest.main()
