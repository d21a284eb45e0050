"""Changes: ties that are taken off or put in, and whether the map is good then."""

from crossties.distances import distance
from crossties.errors import UnknownName
from crossties.longrings import good_peeling, judge_ring, long_ring_of
from crossties.maps import both_near, map_without, with_tie, without_tie
from crossties.nearness import all_near, nears_of
from crossties.peelings import good, judge_peeling, peeling_of


def changed(the_map, x, y):
    """Return the map behind the change of two different posts: without their tie, or with it if there was none."""
    the_map.check_posts((x, y))
    if x == y:
        raise UnknownName(y)
    return without_tie(the_map, x, y) if the_map.is_near(x, y) else with_tie(the_map, x, y)


def can_untie(the_map, x, y):
    """Tell whether the tie of two posts of a good map can be taken off, so that the map stays good."""
    the_map.check_posts((x, y))
    good_peeling(the_map)
    if x == y or not the_map.is_near(x, y):
        return False
    # The two themselves are near each post that is tied to both, so that it does not matter that they are there.
    return all_near(nears_of(the_map), both_near(the_map, x, y))


def can_tie(the_map, x, y):
    """Tell whether two posts of a good map that are not near can be tied, so that the map stays good."""
    the_map.check_posts((x, y))
    good_peeling(the_map)
    if the_map.is_near(x, y):
        return False
    return distance(map_without(the_map, both_near(the_map, x, y)), x, y) is None


def change_paper(the_map, x, y):
    """Return a change paper: a peeling or a long ring of the map behind the change, with the word for it."""
    behind = changed(the_map, x, y)
    row = peeling_of(behind)
    return ("ring", long_ring_of(behind)) if row is None else ("good", row)


def judge_change(the_map, x, y, value):
    """Tell whether a value, which may be anything, is a change paper for the change of two posts."""
    the_map.check_posts((x, y))
    if x == y or not isinstance(value, tuple) or len(value) != 2:
        return False
    word, row = value
    if word == "good":
        return judge_peeling(changed(the_map, x, y), row)
    return word == "ring" and judge_ring(changed(the_map, x, y), row)


def good_changes(the_map):
    """Return the list of all changes, in order, behind which a map is good."""
    posts = the_map.posts()
    changes = [(x, y) for k, x in enumerate(posts) for y in posts[k + 1:]]
    return [(x, y) for x, y in changes if good(changed(the_map, x, y))]
