"""Trees of what a hand holds and takes along the paths, grown from its notes."""

from traitorround.words import STILL, most


def grown(many, rounds, hand, path, notes):
    held = held_for(path, notes)
    below = grown_below(many, rounds, hand, path, notes)
    taken = most([held] + [tree[2] for tree in below])
    return (path, held, taken, below)


def held_for(path, notes):
    word = notes.get(path)
    return STILL if word is None else word


def grown_below(many, rounds, hand, path, notes):
    if len(path) >= rounds:
        return ()
    others = [other for other in range(many) if other != hand and other not in path]
    return tuple([grown(many, rounds, hand, path + (other,), notes) for other in others])


def rows(tree):
    told = [tree[:3]]
    for lower in tree[3]:
        told.extend(rows(lower))
    return told


def taken_at(tree, path):
    if tree[0] == path:
        return tree[2]
    for lower in tree[3]:
        # No two trees in one below begin alike, so at most one of them can hold the path.
        if lower[0] == path[:len(lower[0])]:
            return taken_at(lower, path)
    return None
