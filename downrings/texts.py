"""Texts: a sky written as rows of words, and read again (point 17)."""

from downrings.errors import NoText
from downrings.shapes import number_in
from downrings.skies import check_sky, is_sky

WORDS = ("meadow", "gaps", "shut", "ahead", "glider", "fixed")


def written(sky):
    """The sky as a text."""
    check_sky(sky)
    return text_of(sky)


def read(text):
    """The sky of which this text is written."""
    sky = sky_in(text) if isinstance(text, str) else None
    # Much is read that isn't written so (rows in another order, twice ..): the text itself must come back.
    if not is_sky(sky) or text_of(sky) != text:
        raise NoText("this is not written of a sky")
    return sky


def text_of(sky):
    (rings, sink, gaps, shuts), ahead, gliders, fixed = sky
    rows = [row_of("meadow", (rings, sink))]
    rows += [row_of("gaps", row) for row in gaps]
    rows += [row_of("shut", stretch) for stretch in shuts]
    if ahead is not None:
        rows.append(row_of("ahead", ahead))
    rows += [row_of("glider", glider) for glider in gliders]
    if fixed:
        rows.append(row_of("fixed", fixed))
    return "\n".join(rows)


def row_of(word, numbers):
    return " ".join([word] + [str(number) for number in numbers])


def sky_in(text):
    """What would be the sky of these rows, in whatever order they stand, or None where one is no row."""
    found = {word: [] for word in WORDS}
    for row in text.split("\n"):
        word, *figures = row.split(" ")
        if word not in found:
            return None
        # Of what is no number this is None, which stands at no such place of a sky.
        found[word].append(tuple([number_in(part) for part in figures]))
    meadow = first_row(found["meadow"], ()) + (tuple(found["gaps"]), tuple(found["shut"]))
    return (meadow, first_row(found["ahead"], None), tuple(found["glider"]), first_row(found["fixed"], ()))


def first_row(rows, otherwise):
    return rows[0] if rows else otherwise
