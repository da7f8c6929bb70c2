"""Links: the pairs of cells that follow each other on ways, and how a path changes them ([21], [22])."""


def links_of(ways):
    """Return the pairs (cell, next cell) of the ways, way by way."""
    return [link for way in ways for link in zip(way, way[1:])]


def changed_links(links, path):
    """Return the links behind a path: those that are left, and then the new ones."""
    changed = list(links)
    for (cell, outward), (other, _) in zip(path, path[1:]):
        if cell != other and outward:
            changed.append((cell, other))
        elif cell != other:
            changed = [link for link in changed if link != (other, cell)]
    return changed


def follow(links, cell):
    """Return the cells that are met from a cell on."""
    after = dict(links)
    met = [cell]
    # A ring of links would never end.
    while met[-1] in after and after[met[-1]] not in met:
        met.append(after[met[-1]])
    return met


def new_ways(ways, path):
    """Return the ways behind a path: from the first cells of the ways, and then from that of the path."""
    links = changed_links(links_of(ways), path)
    starts = [way[0] for way in ways]
    first, _ = path[0]
    return [follow(links, cell) for cell in starts + [first]]
