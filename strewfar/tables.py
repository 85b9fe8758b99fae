"""Tables of parts."""

from strewfar.trails import trail_of


def table(parts):
    """Return a text with a row for each part: its name, its beats, the total of its effect and its shift."""
    return "".join([_row_of(name, trail_of(parts, parts.block(name))) for name in parts.names()])


def _row_of(name, trail):
    """Return the row of a part."""
    total = trail.effect().total
    shift = " ".join([str(item) for item in trail.shift])
    return f"{name:<8} {trail.beats:>14,} {total:>14,} {shift}\n"
