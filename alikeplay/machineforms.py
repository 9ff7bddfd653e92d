"""Which values are machines of a code."""

from alikeplay.checks import is_tuple
from alikeplay.codes import heights_of, is_value
from alikeplay.running import ASKING, DEEP, DIVISION, DONE, MOST_FRAMES, READY
from alikeplay.whole import is_between


def are_values(value, many):
    """Tell whether the value is a tuple of so many integers of 32 bits."""
    return is_tuple(value, many) and all(is_value(number) for number in value)


class MachineCheck:
    """A sound code with its heights, to check machines with."""

    def __init__(self, code):
        self.count, self.routines = code
        self.heights = heights_of(code)

    def is_machine(self, value):
        """Tell whether the value is a machine of the code."""
        if not is_tuple(value, 4):
            return False
        variables, frames, mode, pending = value
        if not are_values(variables, self.count) or not isinstance(frames, tuple):
            return False
        if mode in (DONE, DIVISION, DEEP):
            return frames == () and pending is None
        if mode not in (READY, ASKING) or not 1 <= len(frames) <= MOST_FRAMES:
            return False
        if not all(self._is_frame(frame, index > 0) for index, frame in enumerate(frames)):
            return False
        if not all(self._is_behind_call(outer, inner) for outer, inner in zip(frames, frames[1:])):
            return False
        if mode == READY:
            return pending is None and self._is_ready(frames[-1])
        return self._is_behind_ask(frames[-1], pending)

    def _is_frame(self, value, is_function):
        """Tell whether the value is a frame of a function, or of the body, wherever it stands."""
        if not is_tuple(value, 4):
            return False
        index, place, slots, stack = value
        if not is_between(index, 0, len(self.routines) - 1) or (index > 0) != is_function:
            return False
        _, many, instructions = self.routines[index]
        if not is_between(place, 0, len(instructions) - 1) or not are_values(slots, many):
            return False
        return isinstance(stack, tuple) and are_values(stack, len(stack))

    def _is_ready(self, frame):
        index, place, _, stack = frame
        return self.heights[index][place] == len(stack)

    def _instruction_ahead(self, frame):
        """Return the instruction ahead of the place of a frame, or None if it is not reached."""
        index, place, _, _ = frame
        if place == 0 or self.heights[index][place - 1] is None:
            return None
        return self.routines[index][2][place - 1]

    def _has_left(self, frame, taken):
        """Tell whether the stack of a frame is what the instruction ahead leaves that takes so many."""
        index, place, _, stack = frame
        return self.heights[index][place - 1] - taken == len(stack)

    def _is_behind_call(self, outer, inner):
        routine = inner[0]
        return self._instruction_ahead(outer) == ("call", routine) and self._has_left(outer, self.routines[routine][0])

    def _is_behind_ask(self, frame, pending):
        if not is_tuple(pending, 2):
            return False
        command, arguments = pending
        if not isinstance(arguments, tuple) or not are_values(arguments, len(arguments)):
            return False
        return self._instruction_ahead(frame) == ("ask", command, len(arguments)) \
            and self._has_left(frame, len(arguments))
