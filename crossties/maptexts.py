"""The texts of maps."""

from crossties.forms import Reading, list_lexemes, pair_lexemes, written
from crossties.maps import Map


def map_text(the_map):
    """Return the written text of a map."""
    return written(["map"] + list_lexemes(the_map.posts()) + pair_lexemes(the_map.ties()))


def read_map(text):
    """Return the map that a text tells."""
    reading = Reading(text)
    reading.take("map")
    posts = reading.take_names()
    ties = reading.take_pairs()
    reading.take_end()
    return Map(posts, ties)
