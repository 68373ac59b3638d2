"""Groups of places, as rising tuples, and whither moves lead them."""


def everywhere(chain):
    """The group of all places."""
    return tuple(range(chain.places()))


def groups_from(moves, begin):
    """All groups to which rows of moves lead the one to begin at, each with the least of its shortest rows.

    They are told in the order of these rows, the shorter ones first.
    """
    rows = {begin: []}
    found = [begin]
    done = 0
    while done < len(found):
        row = rows[found[done]]
        for number, (_, whither) in enumerate(moves):
            group = led_to(whither, found[done])
            if group not in rows:
                rows[group] = row + [number]
                found.append(group)
        done += 1
    return rows


def led_to(whither, group):
    """Where the places of a group are led by a move."""
    return tuple(sorted({whither[place] for place in group}))
