"""The best widths for a page, found over all that fit."""

# A column's choices are the widths within its limits, each with the column's badness at it. A way, for a room,
# is the badness of a column and all behind it, and the column's width: so the least way is the best one.


def best_ways(choices, behind):
    """For each room the column's best way, None where nothing fits; behind tells the same of the next column."""
    found = []
    for room in range(len(behind)):
        ways = [(badness + behind[room - width][0], width) for width, badness in choices
                if width <= room and behind[room - width] is not None]
        found.append(min(ways, default=None))
    return found


def best_ways_of_all(all_choices, room):
    """What best_ways tells, for each column, up to this room."""
    # Behind the last column there is nothing, which is never bad and fits everywhere.
    behind = [(0, 0)] * (room + 1)
    found = []
    for column in range(len(all_choices) - 1, -1, -1):
        behind = best_ways(all_choices[column], behind)
        found.insert(0, behind)
    return found


def best_widths(all_choices, room):
    """The best widths that are together no more than the room; None if no widths fit."""
    if room < 0:
        return None
    found = best_ways_of_all(all_choices, room)
    if found[0][room] is None:
        return None
    widths = []
    left = room
    for ways in found:
        width = ways[left][1]
        widths.append(width)
        left -= width
    return widths
