"""Points 1 and 2 over the whole program: every way to a tick gives the same state."""

import os
import pathlib
import subprocess
import sys
import unittest

from alikeplay.digests import digest
from alikeplay.games import first_state, step
from alikeplay.records import first_difference, read_save, record_of, run, save_text
from alikeplay.rewinds import Rewind
from alikeplay.sharing import Session
from helpers import Cases
from test_records import inputs_of, slow_states, some_story
from worlds import some_game

ROOT = pathlib.Path(__file__).resolve().parent.parent


def saved_and_loaded(cases, game, seed, story):
    state = first_state(game, seed)
    for row in story:
        if cases.whole(0, 2) == 0:
            state = read_save(game, save_text(game, state))
        state = step(game, state, inputs_of(row))[0]
    return state


def rewound(cases, game, seed, story):
    rewind = Rewind(game, seed)
    while len(rewind.story()) < len(story):
        at = len(rewind.story())
        for row in (*story[at:at + cases.whole(1, 4)], *some_story(cases, cases.whole(0, 3))):
            rewind.step(inputs_of(row))
        right = [row == other for row, other in zip(rewind.story(), story)] + [False]
        rewind.back(len(rewind.story()) - right.index(False))
    return rewind.state()


def heard_late(cases, game, seed, story):
    session = Session(game, seed, 4, 3)
    late = [(player, tick, keys) for tick, row in enumerate(story, 1) for player, keys in enumerate(row, 1) if player != 3]
    while session.confirmed() < len(story):
        if session.clock() < len(story) and cases.whole(0, 2):
            session.advance(story[session.clock()][2])
        elif late and late[0][1] <= session.clock() + 12:
            session.hear(*late.pop(cases.whole(0, len([fact for fact in late[:9] if fact[1] <= session.clock() + 12]) - 1)))
    return session.state()


def shown_digests():
    """Return digests of drawn games as a text."""
    cases = Cases(191)
    return " ".join(str(digest(run(some_game(cases), seed, some_story(cases, 12)))) for seed in range(10))


class EverywhereTests(unittest.TestCase):
    def test_every_way_to_a_tick(self):
        cases = Cases(192)
        for seed in range(15):
            game = some_game(cases)
            story = some_story(cases, cases.whole(1, 20))
            states = slow_states(game, seed, story)
            for way in (saved_and_loaded, rewound, heard_late, lambda _, *told: run(*told)):
                self.assertEqual(way(cases, game, seed, story), states[-1])
            record = record_of(game, seed, story)
            self.assertIsNone(first_difference(game, record))
            self.assertEqual(record[2][-1], (len(story), digest(states[-1])))

    def test_another_process(self):
        """What is computed does not depend on the process, nor on how it spreads strings in its tables."""
        texts = {shown_digests()}
        for seed in ("0", "1", "77"):
            environment = {**os.environ, "PYTHONHASHSEED": seed, "PYTHONPATH": os.pathsep.join((str(ROOT / "tests"), str(ROOT)))}
            code = "from test_everywhere import shown_digests; print(shown_digests())"
            done = subprocess.run([sys.executable, "-B", "-c", code], env=environment, capture_output=True, text=True, check=True)
            texts.add(done.stdout.strip())
        self.assertEqual(len(texts), 1)


if __name__ == "__main__":
    unittest.main()
