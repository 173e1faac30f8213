"""An own writing and reading of byte rows and seals, by the words of the document (DOC.md 6.1, 6.2)."""

DEEPEST = 20
SIGNS = [chr(number) for number in range(32, 127) if chr(number) != chr(37)]


def own_whole(number):
    """The bytes of a number, by its figures to the base 128."""
    figures = []
    while not figures or number:
        number, figure = divmod(number, 128)
        figures.append(figure)
    return [figure + 128 for figure in figures[:-1]] + figures[-1:]


def own_row(parcel):
    """The byte row of a parcel."""
    if parcel is None:
        return (0,)
    if parcel is False:
        return (1,)
    if parcel is True:
        return (2,)
    if isinstance(parcel, int):
        return (3, *own_whole(parcel)) if parcel > -1 else (4, *own_whole(-1 - parcel))
    if isinstance(parcel, str):
        return (5, *own_whole(len(parcel)), *parcel.encode())
    return (6, *own_whole(len(parcel)), *[byte for part in parcel for byte in own_row(part)])


def own_parcel(row):
    """The pair (None, parcel) of a row that is a parcel's, else (place, None); read without going into itself."""
    open_tuples, place = [], 0
    while True:
        if place == len(row) or row[place] > 6 or row[place] == 6 and len(open_tuples) == DEEPEST:
            return place, None
        sort, start = row[place], place + 1
        place = start
        if sort < 3:
            done = [None, False, True][sort]
        else:
            lasts = [k for k in range(start, len(row)) if row[k] < 128]
            if not lasts or lasts[0] > start and row[lasts[0]] == 0:
                return start, None
            place = lasts[0] + 1
            whole = sum((byte % 128) * 128 ** k for k, byte in enumerate(row[start:place]))
            done = whole if sort == 3 else -1 - whole
        if sort == 5:
            if whole not in range(1, 21):
                return start, None
            ahead, place = place, place + whole
            for k in range(ahead, place):
                if k == len(row) or chr(row[k]) not in SIGNS:
                    return k, None
            done = "".join(map(chr, row[ahead:place]))
        if sort == 6:
            open_tuples.append((whole, []))
            if whole:
                continue
            done = open_tuples.pop()[1]
            done = tuple(done)
        while open_tuples:
            due, parts = open_tuples[-1]
            parts.append(done)
            if len(parts) < due:
                break
            open_tuples.pop()
            done = tuple(parts)
        if not open_tuples:
            return (None, done) if place == len(row) else (place, None)


def own_mark(row):
    """The mark of a byte row, as one great sum: byte for byte a figure to the base 1000003."""
    found = 1000003 ** len(row)
    for k, byte in enumerate(reversed(row)):
        found += (byte + 1) * 1000003 ** k
    return found % (2 ** 61 - 1)


def own_sealed(parcel):
    """The byte row of a parcel, and the seal behind it."""
    row = own_row(parcel)
    return row + tuple((own_mark(row) % 2 ** 32).to_bytes(4, "little"))


def with_seal(row):
    """Any byte row, and the seal that is right for it behind it."""
    return row + tuple((own_mark(row) % 2 ** 32).to_bytes(4, "little"))
