"""Places with clocks of their own: answers a line of calls."""

from placeclocks.clocks import Place, ahead_at, has_decree_from, moment_meant, moments_showing, next_change
from placeclocks.clocks import put_decree, shown_at, take_decree
from placeclocks.days import MINUTES_OF_DAY, date_of, is_moment, weekday_of
from placeclocks.decrees import Decree, Summer, Turn, is_more, is_offset, is_turn
from placeclocks.reader import Reader, read_given

PLACE = 0
DECREE = 1
SUMMER = 2
DROP = 3
OFFSET = 4
SHOWS = 5
MOMENTS = 6
MEANT = 7
CHANGE = 8
KEEP = 9
WHEN = 10
THERE = 11

# By a call's number: how many whole numbers it is handed, then how many rows.
SHAPES = ((1, 0), (3, 0), (4, 2), (2, 0), (2, 0), (2, 0), (2, 0), (2, 0), (2, 0), (2, 0), (1, 0), (2, 0), (1, 0))

OUT_OF_BOUNDS = -1
NONE_SUCH = -3
NO_SUCH_DECREE = -4
NO_ROOM = -5
NO_MOMENT = -6

MOST_PLACES = 6
MOST_DECREES = 8
MOST_KEPT = 20
# An offset may be below 0, where an answer would look like a refusal.
OFFSET_ANSWERED_FOR_NONE = 1000


# A time by a place's clocks; its moment is found anew each time, as the place's decrees may have changed.
class Kept:
    def __init__(self, place, shown):
        self.place = place
        self.shown = shown


class Atlas:
    def __init__(self):
        self.places = []
        self.kept = []


def has_place(atlas, number):
    return number < len(atlas.places)


def has_kept(atlas, number):
    return number < len(atlas.kept)


def add_place(atlas, offset):
    if not is_offset(offset):
        return [OUT_OF_BOUNDS]
    if len(atlas.places) >= MOST_PLACES:
        return [NO_ROOM]
    atlas.places.append(Place(offset))
    return [len(atlas.places) - 1]


def lay_down(place, decree):
    if len(place.decrees) >= MOST_DECREES and not has_decree_from(place, decree.moment):
        return [NO_ROOM]
    put_decree(place, decree)
    return [len(place.decrees)]


def add_decree(atlas, number, moment, offset):
    if not has_place(atlas, number):
        return [NONE_SUCH]
    if not (is_moment(moment) and is_offset(offset)):
        return [OUT_OF_BOUNDS]
    return lay_down(atlas.places[number], Decree(moment, offset, None))


def makes_summer(more, begins, ends):
    if not (is_more(more) and is_turn(begins) and is_turn(ends)):
        return False
    return Turn(begins).month != Turn(ends).month


def add_summer(atlas, number, moment, offset, more, begins, ends):
    if not has_place(atlas, number):
        return [NONE_SUCH]
    if not (is_moment(moment) and is_offset(offset) and makes_summer(more, begins, ends)):
        return [OUT_OF_BOUNDS]
    summer = Summer(more, Turn(begins), Turn(ends))
    return lay_down(atlas.places[number], Decree(moment, offset, summer))


def drop_decree(atlas, number, moment):
    if not has_place(atlas, number):
        return [NONE_SUCH]
    place = atlas.places[number]
    # The decree from moment 0 on stays, so that one is in force at each moment.
    if moment == 0 or not has_decree_from(place, moment):
        return [NO_SUCH_DECREE]
    take_decree(place, moment)
    return [len(place.decrees)]


def tell_offset(atlas, number, moment):
    if not has_place(atlas, number):
        return [NONE_SUCH]
    if not is_moment(moment):
        return [OUT_OF_BOUNDS]
    return [OFFSET_ANSWERED_FOR_NONE + ahead_at(atlas.places[number], moment)]


def date_and_time(shown):
    day = shown // MINUTES_OF_DAY
    return date_of(day) + [shown % MINUTES_OF_DAY, weekday_of(day)]


def shown_with_date(place, moment):
    shown = shown_at(place, moment)
    # What clocks show has a date just where a moment of that number would be one.
    if not is_moment(shown):
        return [0, shown]
    return [0, shown] + date_and_time(shown)


def tell_shown(atlas, number, moment):
    if not has_place(atlas, number):
        return [NONE_SUCH]
    if not is_moment(moment):
        return [OUT_OF_BOUNDS]
    return shown_with_date(atlas.places[number], moment)


def tell_moments(atlas, number, shown):
    if not has_place(atlas, number):
        return [NONE_SUCH]
    moments = moments_showing(atlas.places[number], shown)
    return [len(moments)] + moments


def meant_by(place, shown):
    moment = moment_meant(place, shown)
    if moment is None:
        return [NO_MOMENT]
    return [moment, 1 if shown_at(place, moment) == shown else 0]


def tell_meant(atlas, number, shown):
    if not has_place(atlas, number):
        return [NONE_SUCH]
    return meant_by(atlas.places[number], shown)


def tell_change(atlas, number, moment):
    if not has_place(atlas, number):
        return [NONE_SUCH]
    if not is_moment(moment):
        return [OUT_OF_BOUNDS]
    place = atlas.places[number]
    change = next_change(place, moment)
    if change is None:
        return [NO_MOMENT]
    return [change, ahead_at(place, change - 1), ahead_at(place, change)]


def keep_shown(atlas, number, shown):
    if not has_place(atlas, number):
        return [NONE_SUCH]
    if len(atlas.kept) >= MOST_KEPT:
        return [NO_ROOM]
    atlas.kept.append(Kept(atlas.places[number], shown))
    return [len(atlas.kept) - 1]


def tell_when(atlas, number):
    if not has_kept(atlas, number):
        return [NONE_SUCH]
    kept = atlas.kept[number]
    return meant_by(kept.place, kept.shown)


def tell_there(atlas, kept_number, place_number):
    if not (has_kept(atlas, kept_number) and has_place(atlas, place_number)):
        return [NONE_SUCH]
    kept = atlas.kept[kept_number]
    moment = moment_meant(kept.place, kept.shown)
    if moment is None:
        return [NO_MOMENT]
    return shown_with_date(atlas.places[place_number], moment)


def tell_ahead(atlas, moment):
    if not is_moment(moment):
        return [OUT_OF_BOUNDS]
    return [len(atlas.places)] + [ahead_at(place, moment) for place in atlas.places]


def answer_call(atlas, call, given):
    if call == PLACE:
        return add_place(atlas, given[0])
    if call == DECREE:
        return add_decree(atlas, given[0], given[1], given[2])
    if call == SUMMER:
        return add_summer(atlas, given[0], given[1], given[2], given[3], given[4], given[5])
    if call == DROP:
        return drop_decree(atlas, given[0], given[1])
    if call == OFFSET:
        return tell_offset(atlas, given[0], given[1])
    if call == SHOWS:
        return tell_shown(atlas, given[0], given[1])
    if call == MOMENTS:
        return tell_moments(atlas, given[0], given[1])
    if call == MEANT:
        return tell_meant(atlas, given[0], given[1])
    if call == CHANGE:
        return tell_change(atlas, given[0], given[1])
    if call == KEEP:
        return keep_shown(atlas, given[0], given[1])
    if call == WHEN:
        return tell_when(atlas, given[0])
    if call == THERE:
        return tell_there(atlas, given[0], given[1])
    # SHAPES ends with ahead, so no other call comes here.
    return tell_ahead(atlas, given[0])


def answers(calls):
    atlas = Atlas()
    reader = Reader(calls)
    told = []
    while not reader.is_done():
        call = reader.take_number()
        shape = SHAPES[call]
        answer = answer_call(atlas, call, read_given(reader, shape[0], shape[1]))
        told.append(len(answer))
        told.extend(answer)
    return told
