"""The extreme rays of a cone: how facets are found from points, and vertices from inequalities."""

from hullwright.vectors import dot, primitive, rank, relation, transposed


def extreme_rays(rows):
    """Return the ascending list of the primitive vectors on the extreme rays of a cone.

    The cone is the set of the vectors whose products with all rows are at
    least 0. The rank of the rows is their length.
    """
    first = independent_rows(rows)
    rays = starting_rays(rows, first)
    for k, row in enumerate(rows):
        if k not in first:
            rays = rays_after(rays, row, 1 << k)
    return sorted([vector for vector, _ in rays])


def independent_rows(rows):
    """Return the indexes of the first rows that have the rank of all."""
    chosen = []
    for k in range(len(rows)):
        if len(chosen) < len(rows[0]) and rank([rows[i] for i in chosen + [k]]) > len(chosen):
            chosen.append(k)
    return chosen


def starting_rays(rows, chosen):
    """Return the rays of the cone of the chosen rows, as many as there are columns.

    A ray is a pair of a vector and a mask, a number whose bit k is 1 if the
    product with the row k is 0.
    """
    rays = []
    for k in chosen:
        others = [i for i in chosen if i != k]
        vector = relation(transposed([rows[i] for i in others])) if others != [] else (1,)
        if dot(vector, rows[k]) < 0:
            vector = tuple([-entry for entry in vector])
        rays.append((vector, sum([1 << i for i in others])))
    return rays


def rays_after(rays, row, bit):
    """Return the rays of a cone after a further row with this bit."""
    masks = [mask for _, mask in rays]
    above = []
    below = []
    kept = []
    for vector, mask in rays:
        height = dot(row, vector)
        if height < 0:
            below.append((vector, mask, -height))
        elif height == 0:
            kept.append((vector, mask | bit))
        else:
            above.append((vector, mask, height))
            kept.append((vector, mask))
    for vector, mask, height in above:
        for other, other_mask, depth in below:
            if are_neighbours(mask & other_mask, masks):
                crossing = [depth * a + height * b for a, b in zip(vector, other)]
                kept.append((primitive(crossing), (mask & other_mask) | bit))
    return kept


def are_neighbours(common, masks):
    """Tell whether no more than two rays lie in the planes that two rays have in common."""
    many = 0
    for mask in masks:
        if (mask & common) == common:
            many += 1
            if many > 2:
                return False
    return True
