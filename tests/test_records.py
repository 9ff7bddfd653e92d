"""Points 87 to 90 and 98: stories, records and saves."""

import unittest

from alikeplay.digests import data_text, digest
from alikeplay.games import first_state, is_state, step
from alikeplay.records import (
    first_difference, packed_story, read_save, record_of, run, save_text, unpacked_story,
)
from helpers import NO_INTEGERS, NO_TUPLES, Cases, check_arguments, check_pure
from scripts import replaced
from test_digests import LONG
from test_games import BALL, NO_GAMES, NO_SEEDS
from worlds import game_of, some_game, some_inputs

ROW, OTHER, ZERO = (1, 0, 15, 0), (0, 2, 0, 0), (0, 0, 0, 0)
NO_ROWS = (*NO_TUPLES, (), (1, 2, 3), (1, 2, 3, 4, 5), [1, 2, 3, 4], (1, 2, 3, 16), (-1, 2, 3, 4), (0, 0, 16, 0),
           *[(0, value, 0, 0) for value in NO_INTEGERS])
NO_STORIES = (*NO_TUPLES, [ROW], ROW, (ROW,) * 601, *[(ROW, row) for row in NO_ROWS], *[(row, ROW) for row in NO_ROWS])
NO_PACKED = (
    *NO_TUPLES, [(1, ROW)], (1, ROW), ROW, ((1, ROW), (2, ROW)), ((1, OTHER), (1, ROW), (2, ROW)), ((601, ROW),),
    ((300, ROW), (301, OTHER)), ((0, ROW),), ((1, OTHER), (0, ROW)), ((-1, ROW),), ((10 ** 40, ROW),), ((1,),), ((1, ROW, 1),),
    ([1, ROW],), *[((value, ROW),) for value in NO_INTEGERS], *[((1, row),) for row in NO_ROWS],
)


def some_story(cases, steps):
    """Make a story with rows that come several times."""
    rows = [tuple(cases.whole(0, 15) for _ in range(4)) for _ in range(3)]
    return tuple(rows[k // 3 % 2 + cases.whole(0, 1)] for k in range(steps))


def inputs_of(row):
    return tuple(zip((1, 2, 3, 4), row))


def slow_states(game, seed, story):
    states = [first_state(game, seed)]
    for row in story:
        states.append(step(game, states[-1], inputs_of(row))[0])
    return states


def ticks_of(steps):
    return sorted({tick for tick in range(steps + 1) if tick % 16 == 0 or tick == steps})


class StoryTests(unittest.TestCase):
    def test_document(self):
        self.assertEqual(packed_story((ROW, ROW, OTHER)), ((2, ROW), (1, OTHER)))

    def test_bounds(self):
        self.assertEqual(packed_story(()), ())
        self.assertEqual(unpacked_story(()), ())
        self.assertEqual(packed_story((ROW,) * 600), ((600, ROW),))
        self.assertEqual(unpacked_story(((600, ROW),)), (ROW,) * 600)
        self.assertEqual(unpacked_story(((1, ROW), (599, OTHER))), (ROW,) + (OTHER,) * 599)
        self.assertEqual(packed_story((ROW, OTHER) * 300), ((1, ROW), (1, OTHER)) * 300)
        self.assertEqual(packed_story(((0, 0, 0, 15), ZERO, ZERO)), ((1, (0, 0, 0, 15)), (2, ZERO)))

    def test_there_and_back(self):
        cases = Cases(91)
        for _ in range(300):
            story = some_story(cases, cases.whole(0, 40))
            found = check_pure(self, packed_story, story)
            self.assertEqual(check_pure(self, unpacked_story, found), story)
            self.assertTrue(all(one[1] != two[1] and one[0] > 0 for one, two in zip(found, found[1:])))

    def test_runs(self):
        cases = Cases(92)
        for seed in range(12):
            game = some_game(cases)
            story = some_story(cases, cases.whole(0, 12))
            self.assertEqual(run(game, seed, story), slow_states(game, seed, story)[-1])
        self.assertEqual(run(BALL, 9, ()), first_state(BALL, 9))

    def test_errors(self):
        check_arguments(self, packed_story, ((ROW,) * 600,), (("story", NO_STORIES),))
        check_arguments(self, unpacked_story, (((600, ROW),),), (("packed", NO_PACKED),))
        wrong = (("game", NO_GAMES), ("seed", NO_SEEDS), ("story", NO_STORIES))
        check_arguments(self, run, (BALL, 0, (ZERO,)), wrong)
        check_arguments(self, record_of, (BALL, 1000000, (ZERO,)), wrong)


class RecordTests(unittest.TestCase):
    def test_document(self):
        self.assertIsNone(first_difference(BALL, record_of(BALL, 5, ((1, 0, 0, 0),) * 20)))

    def test_marks(self):
        for steps in (0, 1, 15, 16, 17, 31, 32, 33, 599, 600):
            story = some_story(Cases(steps), steps)
            seed, packed, marks = record_of(BALL, 7, story)
            states = slow_states(BALL, 7, story)
            self.assertEqual((seed, packed), (7, packed_story(story)))
            self.assertEqual(marks, tuple((tick, digest(states[tick])) for tick in ticks_of(steps)))
            self.assertIsNone(first_difference(BALL, (seed, packed, marks)))
        self.assertEqual([tick for tick, _ in record_of(BALL, 7, (ROW,) * 17)[2]], [0, 16, 17])
        self.assertEqual([tick for tick, _ in record_of(BALL, 7, (ROW,) * 16)[2]], [0, 16])
        self.assertEqual([tick for tick, _ in record_of(BALL, 7, ())[2]], [0])

    def test_games_with_scripts(self):
        cases = Cases(93)
        for seed in range(6):
            game = some_game(cases)
            story = some_story(cases, 20)
            states = slow_states(game, seed, story)
            record = check_pure(self, record_of, game, seed, story)
            self.assertEqual(record[2], tuple((tick, digest(states[tick])) for tick in (0, 16, 20)))
            self.assertIsNone(check_pure(self, first_difference, game, record))

    def test_the_first_difference(self):
        record = record_of(BALL, 5, (ROW,) * 40)
        for index, tick in enumerate((0, 16, 32, 40)):
            changed = replaced(record, (2, index, 1), -1)
            self.assertEqual(first_difference(BALL, changed), tick)
            for later in range(index, 4):
                self.assertEqual(first_difference(BALL, replaced(changed, (2, later, 1), 0)), tick)
        self.assertEqual(first_difference(BALL, replaced(record, (0,), 6)), 0)
        self.assertEqual(first_difference(game_of((1, None)), record), 0)
        self.assertEqual(first_difference(BALL, replaced(record, (1,), ((16, ROW), (24, OTHER)))), 32)
        self.assertEqual(first_difference(BALL, replaced(record, (1,), ((15, ROW), (25, OTHER)))), 16)
        self.assertEqual(first_difference(BALL, replaced(record, (1,), ((39, ROW), (1, OTHER)))), 40)

    def test_errors(self):
        record = record_of(BALL, 5, (ROW,) * 17)
        marks = record[2]
        wrong = [*NO_TUPLES, (), record[:2], (*record, ()), [*record], *[replaced(record, (0,), seed) for seed in NO_SEEDS],
                 *[replaced(record, (1,), packed) for packed in NO_PACKED]]
        for some in (*NO_TUPLES, (), marks[:2], marks + ((18, 5),), marks[::-1], [*marks], marks[:1] * 3, marks[:2] * 2,
                     (marks[0], marks[1], (18, 5)), (marks[0], (15, 5), marks[2]), ((1, 5), *marks[1:]), (*marks[:2], [17, 5]),
                     (*marks[:2], (17,)), (*marks[:2], (17, 5, 5)), (*marks[:2], None)):
            wrong.append(replaced(record, (2,), some))
        for value in NO_INTEGERS:
            wrong += [replaced(record, (2, 1, 1), value), replaced(record, (2, 1, 0), value)]
        wrong += [replaced(record_of(BALL, 5, ()), (2,), some) for some in ((), ((0, 1), (0, 1)), ((False, 1),))]
        wrong.append(replaced(record_of(BALL, 5, (ROW,) * 16), (2,), ((0, 1), (16, 1), (16, 1))))
        check_arguments(self, first_difference, (BALL, replaced(record, (2, 1, 1), -10 ** 30)),
                        (("game", NO_GAMES), ("record", wrong)))


class SaveTests(unittest.TestCase):
    def test_there_and_back(self):
        """A state that was saved and read goes on as the state itself."""
        cases = Cases(94)
        for seed in range(10):
            game = some_game(cases)
            state = first_state(game, seed)
            for _ in range(8):
                text = check_pure(self, save_text, game, state)
                self.assertEqual(text, data_text(state))
                read = check_pure(self, read_save, game, text)
                self.assertEqual(read, state)
                inputs = some_inputs(cases)
                self.assertEqual(step(game, read, inputs), step(game, state, inputs))
                state = step(game, read, inputs)[0]

    def test_other_texts_of_states(self):
        """A save that was changed by a sign is no save, or that of another state."""
        cases = Cases(95)
        game = game_of((1, "var a; while 1 { a = @roll(6); wait; }"), (None, "do @me(); " * 20))
        state = step(game, first_state(game, 5), ())[0]
        text = save_text(game, state)
        signs = '0123456789-,()"ntf ab+_.\u0661'
        states = 0
        for _ in range(1500):
            at = cases.whole(0, len(text))
            many = cases.whole(0, 1)
            changed = text[:at] + cases.one(("", *signs)) + text[at + many:]
            if changed == text:
                continue
            try:
                read = read_save(game, changed)
            except ValueError as error:
                self.assertEqual(error.name, "text")
                continue
            self.assertIs(is_state(game, read), True)
            self.assertEqual(save_text(game, read), changed)
            states += 1
        self.assertGreater(states, 50)

    def test_long_numbers(self):
        state = (0, 1, ZERO, LONG + 1, 0, ((LONG, 0, 0, 0, 0, 0, (0, 0), None),))
        text = save_text(BALL, state)
        self.assertEqual(text, "(0,1,(0,0,0,0),1" + "0" * 4999 + "8,0,((1" + "0" * 4999 + "7,0,0,0,0,0,(0,0),n)))")
        self.assertEqual(read_save(BALL, text), state)

    def test_no_saves(self):
        text = save_text(BALL, first_state(BALL, 5))
        self.assertEqual(text, "(0,6,(0,0,0,0),2,0,((1,0,16,0,0,0,(0,0),n)))")
        wrong = [None, True, 0, (), b"x", [text], ("(",), "", " ", "n", "()", "(", ")", "0", '"', '""', '"a', "-", "--1", ",", "(,)",
                 text + " ", " " + text, text + text, "(" + text + ")", text[:-1], text[1:], text + ")", text + ",", text + "\n",
                 text.replace(",", ", "), text.replace("16", "016"), text.replace("16", "+16"), text.replace("16", "1_6"),
                 text.replace("(0,6", "(-0,6"), text.replace("(0,6", "(00,6"), text.replace("n", "None"), text.replace(",n", ",n,"),
                 text.replace(",n", ""), text.replace(",n", ",f"), text.replace(",n", ",()"), text.replace("(0,0)", "[0,0]"),
                 text.replace("16", "16.0"), text.replace("16", '"16"'), text.replace("16", "t"), text.replace("16", "41"),
                 text.replace("16", "\u0661\u0666"), text.replace("16", "1 6"), text.replace("16", "-"), text.replace("16", "1-6"),
                 text.replace("),2", "),1"), text.replace("(0,6", "(100001,6"), text.replace(",(0", "(0"), text.replace("(0,0),n", "(0,0)n"),
                 "(" * 30000, "(" * 30000 + ")" * 30000, ")" * 100, '"' * 9, "x", text.replace("n", "x"), text.replace(",", ";")]
        check_arguments(self, read_save, (BALL, text), (("game", NO_GAMES), ("text", wrong)))
        state = first_state(BALL, 5)
        check_arguments(self, save_text, (BALL, state), (("game", NO_GAMES), ("state", [*NO_TUPLES, (), state[:5], [*state]])))


if __name__ == "__main__":
    unittest.main()
