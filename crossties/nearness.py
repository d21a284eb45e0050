"""What peelings, rings, crowds and distances have in common: which posts are near which ones."""


def nears_of(the_map):
    """Return a dict from each post to a dict whose keys are the posts near it, both in the map's order."""
    return {x: {y: True for y in the_map.near(x)} for x in the_map.posts()}


def all_near(nears, posts):
    """Tell whether posts are near one another, in such a dict."""
    for x in posts:
        near = nears[x]
        for y in posts:
            if y not in near:
                return False
    return True


def are_different_posts(the_map, values):
    """Tell whether values, which may be anything, are posts of a map, none of them twice."""
    met = {}
    for value in values:
        if not the_map.has_post(value) or value in met:
            return False
        met[value] = True
    return True
