"""The clocks of one place: its decrees, each in force up to the next one, and what they show."""

from placeclocks.days import is_moment
from placeclocks.decrees import Decree, ahead_by, possible_aheads


# The decrees stand in the order of their moments; the first one is always from moment 0 on.
class Place:
    def __init__(self, offset):
        self.decrees = [Decree(0, offset, None)]


def has_decree_from(place, moment):
    return any([decree.moment == moment for decree in place.decrees])


def take_decree(place, moment):
    place.decrees = [decree for decree in place.decrees if decree.moment != moment]


def put_decree(place, decree):
    take_decree(place, decree.moment)
    place.decrees = sorted(place.decrees + [decree], key=lambda each: each.moment)


def decree_in_force(place, moment):
    found = place.decrees[0]
    for decree in place.decrees:
        if decree.moment <= moment:
            found = decree
    return found


def ahead_at(place, moment):
    return ahead_by(decree_in_force(place, moment), moment)


def shown_at(place, moment):
    return moment + ahead_at(place, moment)


def moments_showing(place, shown):
    # Clocks can only be ahead by what some decree tells, so no other moments need be tried.
    tried = []
    for decree in place.decrees:
        for ahead in possible_aheads(decree):
            tried.append(shown - ahead)
    return [moment for moment in sorted(set(tried)) if is_moment(moment) and shown_at(place, moment) == shown]
