"""Exploring: which schedule of some choices leads to a wanted world (points [104] and [105])."""

from crosskeep.script.runs import run


def explore(make_world, choices, depth, wanted):
    """Return a pair: the first schedule that leads to a wanted world, or None, and how many were run."""
    count = 0
    schedules = [[]]
    for length in range(depth + 1):
        if length > 0:
            schedules = [schedule + [call] for schedule in schedules for call in choices]
        kept = []
        for schedule in schedules:
            count += 1
            world = _world_behind(make_world, schedule)
            if world is None:
                continue
            if wanted(world):
                return schedule, count
            kept.append(schedule)
        schedules = kept
    return None, count


def _world_behind(make_world, schedule):
    """Return a new world behind a schedule, or None if the last call is refused, which changes nothing."""
    world = make_world()
    outcomes = run(world, schedule)
    if outcomes and not outcomes[-1][0]:
        return None
    return world
