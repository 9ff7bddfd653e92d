"""Instructions of a routine without those that do nothing."""

from alikeplay.codes import PLACED


def shortened(instructions):
    """Return the tuple of the instructions without jumps that lead to jumps, and without what is not needed.

    It is made in one go what taking out one place after another leads to: taking out a place that is not reached
    changes nothing for the others, then all places are reached, and taking out a jump to the next place changes no
    aim. Only a jump ahead of it can become one to the next place by it, so these are looked for from behind.
    """
    aimed = [_aimed(instruction, instructions) for instruction in instructions]
    needed = _reached(aimed)
    for place in range(len(aimed) - 1, -1, -1):
        if _leads_to_next(place, aimed, needed):
            needed[place] = False
    return _gathered(aimed, needed)


def _aimed(instruction, instructions):
    """Return the instruction with the aim of its place, if it names one."""
    if instruction[0] not in PLACED:
        return instruction
    return instruction[0], _aim(instruction[1], instructions)


def _aim(place, instructions):
    at = place
    passed = {}
    while instructions[at][0] == "jump":
        if at in passed:
            return place
        passed[at] = True
        at = instructions[at][1]
    return at


def _reached(instructions):
    """Return the list that tells of each place whether it is reached."""
    found = [False] * len(instructions)
    places = [0]
    while places:
        place = places.pop()
        if not found[place]:
            found[place] = True
            word = instructions[place][0]
            if word in PLACED:
                places.append(instructions[place][1])
            if word not in ("jump", "return", "end"):
                places.append(place + 1)
    return found


def _leads_to_next(place, instructions, needed):
    """Tell whether a jump leads to the next place that is needed."""
    word = instructions[place][0]
    return word == "jump" and instructions[place][1] > place and not any(needed[place + 1:instructions[place][1]])


def _gathered(instructions, needed):
    """Return the tuple of the instructions that are needed, with the places at which they stand then."""
    places = []
    many = 0
    for is_needed in needed:
        places.append(many)
        many += 1 if is_needed else 0
    found = []
    for is_needed, instruction in zip(needed, instructions):
        if is_needed and instruction[0] in PLACED:
            found.append((instruction[0], places[instruction[1]]))
        elif is_needed:
            found.append(instruction)
    return tuple(found)
