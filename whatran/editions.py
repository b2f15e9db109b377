"""Editions of a program: what of one is kept in another, and which runs go on in it."""

from whatran.blocks import MAIN
from whatran.errors import NoEnds, NoPoint, NotLed
from whatran.sums import is_end, need_counts, point_meets


def kept_rows(old, new):
    """The list of tuples (row of the old program, row of the new one) that are kept."""
    rows = old.rows()
    others = new.rows()
    most = _most_kept(rows, others)
    alike = [(row, other) for row in range(len(rows)) for other in range(len(others)) if rows[row] == others[other]]
    kept = []
    at = (0, 0)
    for row, other in alike:
        behind = (row + 1, other + 1)
        # The first pair behind which as many can be kept as are due makes the first list.
        if row >= at[0] and other >= at[1] and most[behind] + 1 == most[at]:
            kept.append((row, other))
            at = behind
    return kept


def image_of(old, new, point):
    """The point of the new program that a point of the old one is; None where it is none."""
    if not old.is_point(point):
        raise NoPoint("no point of the old program")
    return _images(old, new).get(point)


def why_otherwise(old, new, *, met, taken, ends):
    """Why a run that met and took this, and ended so, does not go the same way; None where it does."""
    images = _images(old, new)
    if images.get(old.begin(MAIN)) != new.begin(MAIN):
        return ("begin",)
    points = sorted(met)
    for point in points:
        if point not in images:
            return ("point", point)
    for way in sorted(taken):
        if not _is_way_kept(old, new, images, way):
            return ("way", way)
    for point in points:
        if old.word(point[0]) == "call" and met[point] > _called_nothing(point, ends):
            if not _is_call_kept(old, new, images, point):
                return ("call", point)
    for point in points:
        if old.word(point[0]) == "end" and not _is_end_kept(old, new, images, point):
            return ("end", point)
    return None


def led_counts(old, new, counts, ends):
    """The counts and ends in the new program of a run that goes on in it."""
    need_counts(old, counts)
    if not is_end(old, ends):
        raise NoEnds("no ends of one run")
    meets = point_meets(old, counts, [ends])
    # Where counts do not go with the ends, too, the points of the ends are met.
    often = {point: max(meets[point], ends.count(point)) for point in meets}
    met = {point: often[point] for point in often if often[point] > 0}
    taken = {way: counts[way] for way in counts if counts[way] > 0}
    why = why_otherwise(old, new, met=met, taken=taken, ends=ends)
    if why is not None:
        raise NotLed(why)
    images = _images(old, new)
    led = {way: 0 for way in new.ways()}
    for way in taken:
        led[_way_image(images, way)] = taken[way]
    return led, tuple([images[point] for point in ends])


def _most_kept(rows, others):
    """How many rows can be kept of those from each pair of rows on."""
    most = {(row, other): 0 for row in range(len(rows) + 1) for other in range(len(others) + 1)}
    for row in reversed(range(len(rows))):
        for other in reversed(range(len(others))):
            if rows[row] == others[other]:
                most[(row, other)] = most[(row + 1, other + 1)] + 1
            else:
                most[(row, other)] = max(most[(row + 1, other)], most[(row, other + 1)])
    return most


def _images(old, new):
    """The image of each point of the old program that has one."""
    kept = {row: other for row, other in kept_rows(old, new)}
    images = {}
    for row, part in old.points():
        # Rows of one text have one word; but what ends a routine may end a block there.
        if row in kept and new.is_point((kept[row], part)):
            images[(row, part)] = (kept[row], part)
    return images


def _way_image(images, way):
    """The way of the new program that a way is whose point has an image."""
    row, part = images[(way[0], way[1])]
    return (row, part, way[2])


def _is_way_kept(old, new, images, way):
    """Whether the way leads to a point whose image is that to which the way's image leads."""
    if (way[0], way[1]) not in images:
        return False
    return images.get(old.leads(way)) == new.leads(_way_image(images, way))


def _called_nothing(point, ends):
    """How often the point of a call stands last in the ends of a run."""
    return 1 if ends != () and ends[-1] == point else 0


def _is_call_kept(old, new, images, point):
    """Whether the routine that a call calls is that which the call's image calls."""
    row, _ = images[point]
    return images.get(old.begin(old.called(point[0]))) == new.begin(new.called(row))


def _is_end_kept(old, new, images, point):
    """Whether the end of a routine is the end of that routine still."""
    row, _ = images[point]
    return images.get(old.begin(old.routine(point[0]))) == new.begin(new.routine(row))
