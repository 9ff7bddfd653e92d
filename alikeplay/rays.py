"""The times at which a ray is in cells, counted in equal parts of the ray."""

# When a ray has come into what it is in at its beginning: before all else.
EARLIER = -1


def parts_of(dx, dy):
    """Return a number of parts that both dx and dy divide, so that all times are whole."""
    return max(1, abs(dx)) * max(1, abs(dy))


def stay(start, way, low, high, parts):
    """Return the first and the last part at which a coordinate is from low to high, or None if it never is.

    A stay that is over before the ray begins, or that begins behind its end, is left to `meeting`.
    """
    if low <= start <= high and way == 0:
        return EARLIER, parts
    if way == 0:
        return None
    first, last = sorted([(low - start) * parts // way, (high - start) * parts // way])
    if first <= 0:
        first = EARLIER
    return first, min(last, parts)


def meeting(across, down):
    """Return the first part at which both coordinates are where they stay, or None."""
    if across is None or down is None:
        return None
    first = max(0, across[0], down[0])
    if first > min(across[1], down[1]):
        return None
    return first


def face_met(across, down, dx, dy):
    """Return the face at which a ray with these stays comes to a cell."""
    if across[0] == EARLIER and down[0] == EARLIER:
        return "inside"
    if across[0] >= down[0]:
        return "left" if dx > 0 else "right"
    return "top" if dy > 0 else "bottom"
