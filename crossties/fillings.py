"""All choices of one post for each thing, of its own posts, such that bonded things are at near posts."""


def fillings(nears, bonded, rows, most):
    """Return the list of the choices, tuples of posts; once there are more than so many, it may lack others.

    bonded tells for each thing the numbers of the things bonded to it, and rows the list of its posts.
    """
    found = []
    waiting = [narrowed(nears, bonded, rows, list(range(len(rows))))]
    while waiting and len(found) <= most:
        left = waiting.pop()
        if left is not None:
            k = shortest_choice(left)
            if k is None:
                found.append(tuple([row[0] for row in left]))
            else:
                for post in left[k]:
                    chosen = left[:k] + [[post]] + left[k + 1:]
                    waiting.append(narrowed(nears, bonded, chosen, [k]))
    return found


def shortest_choice(rows):
    """Return the number of a shortest row of several posts, or None if each row has one."""
    many = [len(row) for row in rows if len(row) > 1]
    if not many:
        return None
    return [len(row) for row in rows].index(min(many))


def narrowed(nears, bonded, rows, changed):
    """Return the rows without the posts that are near no post of a bonded thing; None if nothing is left of one.

    Only the rows of the things with the numbers in changed, and what follows from them, are looked at.
    """
    rows = list(rows)
    waiting = list(changed)
    while waiting:
        k = waiting.pop()
        for j in bonded[k]:
            kept = [x for x in rows[j] if any([y in nears[x] for y in rows[k]])]
            if not kept:
                return None
            if len(kept) < len(rows[j]):
                rows[j] = kept
                waiting.append(j)
    return rows
