"""Minutes that go by, each with its parts in their order."""

from glassworks.checks import NOT_AS_TOLD, TOO_LATE, within
from glassworks.furnace import furnace_minute
from glassworks.oven import oven_minute
from glassworks.teams import teams_minute

MOST_MINUTES = 1440
LAST_MINUTE = 50000


def one_minute(works):
    furnace_minute(works)
    teams_minute(works)
    oven_minute(works)
    works.minute += 1


def pass_minutes(works, n):
    if not within(n, 1, MOST_MINUTES):
        return [NOT_AS_TOLD]
    if works.minute + n > LAST_MINUTE:
        return [TOO_LATE]
    for minute in range(n):
        one_minute(works)
    return [works.minute, works.heat, works.cracked]
