"""The clocks of one place: its decrees, each in force up to the next one, and what they show."""

from placeclocks.days import is_moment
from placeclocks.decrees import Decree, ahead_by, next_turn, possible_aheads

# Clocks are never ahead by more than this, so no moment further back shows what is asked, or more.
FURTHEST_BACK = 1000


# The decrees stand in the order of their moments; the first one is always from moment 0 on.
class Place:
    def __init__(self, offset):
        self.decrees = [Decree(0, offset, None)]


def has_decree_from(place, moment):
    return any([decree.moment == moment for decree in place.decrees])


def take_decree(place, moment):
    place.decrees = [decree for decree in place.decrees if decree.moment != moment]


def put_decree(place, decree):
    take_decree(place, decree.moment)
    place.decrees = sorted(place.decrees + [decree], key=lambda each: each.moment)


def decree_in_force(place, moment):
    found = place.decrees[0]
    for decree in place.decrees:
        if decree.moment <= moment:
            found = decree
    return found


def ahead_at(place, moment):
    return ahead_by(decree_in_force(place, moment), moment)


def shown_at(place, moment):
    return moment + ahead_at(place, moment)


def moments_showing(place, shown):
    # Clocks can only be ahead by what some decree tells, so no other moments need be tried.
    tried = []
    for decree in place.decrees:
        for ahead in possible_aheads(decree):
            tried.append(shown - ahead)
    return [moment for moment in sorted(set(tried)) if is_moment(moment) and shown_at(place, moment) == shown]


def changes_at(place, moment):
    return ahead_at(place, moment) != ahead_at(place, moment - 1)


# None if clocks are ahead by the same from the moment on to the last one.
def next_change(place, moment):
    tried = []
    for decree in place.decrees:
        tried.append(decree.moment)
        if decree.summer is not None:
            # While a decree is in force each turn is a change, so of its turns the first will do.
            tried.append(next_turn(decree.summer, max(moment, decree.moment)))
    behind = [each for each in tried if each > moment and is_moment(each)]
    return min([each for each in behind if changes_at(place, each)], default=None)


# Of what clocks never show: between changes they go on by single minutes, so they can only jump over it at a change.
def first_showing_more(place, shown):
    moment = max(0, shown - FURTHEST_BACK)
    if not is_moment(moment):
        return None
    while moment is not None and shown_at(place, moment) < shown:
        moment = next_change(place, moment)
    return moment


# None if clocks show less than that at each moment.
def moment_meant(place, shown):
    moments = moments_showing(place, shown)
    if len(moments) > 0:
        return moments[0]
    return first_showing_more(place, shown)
