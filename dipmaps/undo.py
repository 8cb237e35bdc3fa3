"""A row's work taken out: the row done again until every shade is back, or two shades that it brings to one."""

from dipmaps.rows import through


def brought_together(shades, outs):
    sources = {}
    for shade, out in zip(shades, outs):
        if out in sources:
            return (sources[out], shade)
        sources[out] = shade
    return None


def times_to_go(shades, outs):
    comes_out = dict(zip(shades, outs))
    table = outs
    times = 0
    while table != shades:
        table = [comes_out[shade] for shade in table]
        times += 1
    return times


def taken_out(book, row):
    outs = through(book, row)
    shades = book.shades()
    pair = brought_together(shades, outs)
    if pair is not None:
        return (None, pair)
    return (row * times_to_go(shades, outs), None)
