"""Runs of games, their records and their saves."""

from alikeplay.checks import require
from alikeplay.digests import digest
from alikeplay.games import Game, state_of
from alikeplay.plaintexts import data_of, text_of
from alikeplay.runs import runs_of, values_of
from alikeplay.states import is_seed, is_state_of
from alikeplay.stories import is_packed, is_record, is_story, mark_ticks
from alikeplay.worlds import stepped


def run(game, seed, story):
    """Return the state after the story."""
    _check_run(game, seed, story)
    return _states(game, seed, story)[-1]


def _check_run(game, seed, story):
    require(isinstance(game, Game), "game")
    require(is_seed(seed), "seed")
    require(is_story(story), "story")


def _states(game, seed, story):
    """Return the list of the states at the ticks of a run."""
    states = [state_of(game, seed)]
    for row in story:
        state, _ = stepped(game, states[-1], row)
        states.append(state)
    return states


def _marks(game, seed, story):
    """Return the tuple of the marks of the record of a run."""
    states = _states(game, seed, story)
    return tuple([(tick, digest(states[tick])) for tick in mark_ticks(len(story))])


def packed_story(story):
    """Return the packed story."""
    require(is_story(story), "story")
    return runs_of(story)


def unpacked_story(packed):
    """Return the story of a packed one."""
    require(is_packed(packed), "packed")
    return values_of(packed)


def record_of(game, seed, story):
    """Return the record of a run."""
    _check_run(game, seed, story)
    return seed, runs_of(story), _marks(game, seed, story)


def first_difference(game, record):
    """Return None if the record is true, otherwise the least tick of its marks that has another digest in the run."""
    require(isinstance(game, Game), "game")
    require(is_record(record), "record")
    seed, parts, marks = record
    for mark, true_mark in zip(marks, _marks(game, seed, values_of(parts))):
        if mark != true_mark:
            return mark[0]
    return None


def save_text(game, state):
    """Return the save of a state."""
    require(isinstance(game, Game), "game")
    require(is_state_of(game, state), "state")
    return text_of(state)


def read_save(game, text):
    """Return the state that has this save."""
    require(isinstance(game, Game), "game")
    found = data_of(text) if isinstance(text, str) else []
    require(len(found) == 1 and is_state_of(game, found[0]), "text")
    return found[0]
