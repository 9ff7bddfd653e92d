"""Points 91 and 98: runs that can be taken back."""

import copy
import unittest

from alikeplay.errors import BadValue, TooLarge
from alikeplay.games import first_state, step
from alikeplay.records import run
from alikeplay.rewinds import Rewind
from helpers import NO_INTEGERS, Cases, check_arguments
from test_games import BALL, NO_GAMES, NO_INPUTS, NO_SEEDS
from worlds import game_of, some_game, some_inputs


class RewindTests(unittest.TestCase):
    def test_a_new_rewind(self):
        rewind = Rewind(BALL, 5)
        self.assertEqual((rewind.state(), rewind.story(), rewind.back(0)), (first_state(BALL, 5), (), 0))
        self.assertEqual(rewind.state_at(0), first_state(BALL, 5))

    def test_steps_and_back(self):
        rewind = Rewind(BALL, 5)
        self.assertEqual(rewind.step(((1, 3),)), ())
        self.assertEqual(rewind.step(()), ())
        self.assertEqual(rewind.step(((2, 1), (4, 15))), ())
        self.assertEqual(rewind.story(), ((3, 0, 0, 0), (0, 0, 0, 0), (0, 1, 0, 15)))
        states = [rewind.state_at(tick) for tick in range(4)]
        self.assertEqual([state[0] for state in states], [0, 1, 2, 3])
        self.assertEqual(rewind.back(2), 1)
        self.assertEqual((rewind.story(), rewind.state()), (((3, 0, 0, 0),), states[1]))
        self.assertEqual(rewind.back(1), 0)
        self.assertEqual((rewind.story(), rewind.state()), ((), states[0]))

    def test_what_was_taken_back_does_not_matter(self):
        """What is asked depends on the story that stands alone."""
        cases = Cases(96)
        for seed in range(12):
            game = some_game(cases)
            rewind, story = Rewind(game, seed), []
            for _ in range(25):
                kind = cases.whole(0, 3)
                if kind == 0 and story:
                    count = cases.whole(0, len(story))
                    story = story[:len(story) - count]
                    self.assertEqual(rewind.back(count), len(story))
                else:
                    inputs = some_inputs(cases)
                    state, report = step(game, rewind.state(), inputs)
                    self.assertEqual(rewind.step(inputs), report)
                    self.assertEqual(rewind.state(), state)
                    story.append(tuple(dict(inputs).get(player, 0) for player in (1, 2, 3, 4)))
                self.assertEqual(rewind.story(), tuple(story))
                tick = cases.whole(0, len(story))
                self.assertEqual(rewind.state_at(tick), run(game, seed, tuple(story[:tick])))
                self.assertEqual(rewind.state(), rewind.state_at(len(story)))

    def test_reports(self):
        rewind = Rewind(game_of((None, "while 1 { do @say(@roll(100)); wait; }")), 3)
        reports = [rewind.step(()) for _ in range(5)]
        self.assertEqual(len(set(reports)), 5)
        rewind.back(3)
        self.assertEqual([rewind.step(((1, 1),)) for _ in range(3)], reports[2:])

    def test_six_hundred_steps(self):
        rewind = Rewind(BALL, 5)
        for _ in range(600):
            rewind.step(())
        self.assertEqual((len(rewind.story()), rewind.state()[0], rewind.state_at(600)[0]), (600, 600, 600))
        with self.assertRaises(TooLarge) as caught:
            rewind.step(((1, 1),))
        self.assertEqual(caught.exception.what, "steps")
        for inputs in NO_INPUTS:
            with self.assertRaises(BadValue) as caught:
                rewind.step(inputs)
            self.assertEqual(caught.exception.name, "inputs")
        self.assertEqual((len(rewind.story()), rewind.state()[0]), (600, 600))
        self.assertEqual(rewind.back(600), 0)
        self.assertEqual(rewind.step(((1, 1),)), ())
        self.assertEqual(rewind.story(), ((1, 0, 0, 0),))

    def test_two_rewinds(self):
        first, second = Rewind(BALL, 5), Rewind(BALL, 5)
        first.step(())
        self.assertEqual((first.state()[0], second.state()[0], second.story()), (1, 0, ()))

    def test_the_game_is_copied(self):
        game = game_of((1, None))
        rewind = Rewind(game, 5)
        other = Rewind(game, 5)
        game.grid = (1, 1, "#")
        game.kinds = ()
        self.assertEqual([rewind.step(()) for _ in range(3)], [(), (), ()])
        self.assertEqual((rewind.state()[5][0][3], other.state()[5][0][3]), (6, 0))

    def test_errors(self):
        check_arguments(self, Rewind, (BALL, 1000000), (("game", NO_GAMES), ("seed", NO_SEEDS)))
        rewind = Rewind(BALL, 0)
        for _ in range(3):
            rewind.step(((1, 1),))
        before = copy.deepcopy((rewind.state(), rewind.story()))
        for method, name, values in ((rewind.step, "inputs", NO_INPUTS), (rewind.back, "count", (-1, 4, 600, *NO_INTEGERS)),
                                     (rewind.state_at, "tick", (-1, 4, 600, *NO_INTEGERS))):
            for value in values:
                with self.assertRaises(ValueError) as caught:
                    method(value)
                self.assertEqual(getattr(caught.exception, "name", None), name)
                self.assertEqual((rewind.state(), rewind.story()), before)
        self.assertEqual((rewind.state_at(3)[0], rewind.back(3)), (3, 0))


if __name__ == "__main__":
    unittest.main()
