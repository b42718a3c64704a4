"""How far it is to a goal, and what was lost on the way."""

from oddcrowds.leading import ask_like_people, lead_bounds


def left_to(standing, goal):
    """Return the pair of the least and the greatest number of calls by which a standing leads to a goal."""
    return lead_bounds(standing, goal)


def wastes(start, calls, standing, goal):
    """Return the pair of the early and the late waste of so many calls that led from start to standing."""
    ask_like_people(start, standing)
    ask_like_people(start, goal)
    least, most = lead_bounds(start, goal)
    least_left, most_left = lead_bounds(standing, goal)
    return (calls + least_left - least, most - most_left - calls)
