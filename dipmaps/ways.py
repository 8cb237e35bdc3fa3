"""The shortest row from shade to shade."""


def shortest_rows(book, first):
    # The shades of a length are walked in the order of their rows and the baths in the order of names,
    # so the row that finds a shade is the first by names of all that are as short.
    baths = book.baths()
    rows = {first: []}
    newest = [first]
    while len(newest) > 0:
        found = []
        for shade in newest:
            for bath in baths:
                out = book.out(bath, shade)
                if out not in rows:
                    rows[out] = rows[shade] + [bath]
                    found.append(out)
        newest = found
    return rows


def way(book, first, last):
    book.check_shade(first)
    book.check_shade(last)
    rows = shortest_rows(book, first)
    if last not in rows:
        # No bath leads out of all that can be reached.
        return (None, sorted(rows))
    numbers = [(shade, len(rows[shade])) for shade in sorted(rows)]
    return (rows[last], numbers)
