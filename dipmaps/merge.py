"""All shades to one: a row that brings every shade to one shade, or pairs of shades that no row brings together."""

from dipmaps.rows import walk


def all_pairs(shades):
    pairs = []
    for place, shade in enumerate(shades):
        pairs.extend([(shade, behind) for behind in shades[place + 1:]])
    return pairs


def joining_row(book, pair, rows):
    for bath in book.baths():
        outs = sorted([book.out(bath, shade) for shade in pair])
        if outs[0] == outs[1]:
            return [bath]
        if tuple(outs) in rows:
            return [bath] + rows[tuple(outs)]
    return None


def joining_rows(book, pairs):
    # A row is built upon that of a pair found earlier, so none is longer than there are pairs: at most 66 baths.
    rows = {}
    growing = True
    while growing:
        growing = False
        for pair in [each for each in pairs if each not in rows]:
            row = joining_row(book, pair, rows)
            if row is not None:
                rows[pair] = row
                growing = True
    return rows


def joined(book, rows):
    # Each round leaves at least one shade fewer, so 11 rounds of at most 66 baths keep below the 1000 allowed.
    row = []
    shades = book.shades()
    while len(shades) > 1:
        part = rows[(shades[0], shades[1])]
        row.extend(part)
        shades = sorted(set([walk(book, part, shade)[-1] for shade in shades]))
    return (row, shades[0])


def all_to_one(book):
    pairs = all_pairs(book.shades())
    rows = joining_rows(book, pairs)
    # Were a pair without a row turned into one shade or into a pair with a row, it would have a row itself.
    apart = [pair for pair in pairs if pair not in rows]
    if len(apart) > 0:
        return (None, apart)
    return joined(book, rows)
