"""Questions about wholes, and what a seen table leaves open of their answers."""

from calmblanks.basics import added, divided
from calmblanks.calm import calm_whole
from calmblanks.errors import BadText
from calmblanks.tables import columns_seen, contents_showing
from calmblanks.tilts import tilted_whole

NO_STRING = -1
# What is read where a text is at its end: no word is empty.
END = ""
YES = "yes"
SHARE = "share"
MEAN = "mean"


def words_of(text):
    """The words and parentheses of a text, each a pair of its place and itself; the end is one, too."""
    found = []
    start = None
    for at, sign in enumerate(text + " "):
        if sign not in " ()":
            start = at if start is None else start
            continue
        if start is not None:
            found.append((start, text[start:at]))
            start = None
        if sign != " ":
            found.append((at, sign))
    return found + [(len(text), END)]


class Reader:
    """The words of a text, told one behind another."""

    def __init__(self, text):
        self.words = words_of(text)
        self.place = 0

    def word(self):
        return self.words[self.place][1]

    def step(self):
        self.place += 1

    def judge(self, can_stand):
        if not can_stand:
            raise BadText(self.words[self.place][0])


class Level:
    """What has been read of an expression within one pair of parentheses, in masks."""

    def __init__(self, full):
        self.full = full
        self.either = 0
        self.both = full
        self.is_turned = False

    def take(self, mask):
        self.both = self.both & (mask ^ self.full if self.is_turned else mask)
        self.is_turned = False

    def turn(self):
        self.is_turned = not self.is_turned

    def begin_other(self):
        self.either = self.met()
        self.both = self.full

    def met(self):
        return self.either | self.both


def mask_of(flags):
    """The number whose bits are the flags, the first one the least: so are told the keys that meet a condition."""
    return sum([1 << place for place, flag in enumerate(flags) if flag])


def marked(mask, items):
    """The items in whose places a mask has a mark."""
    return [item for place, item in enumerate(items) if (mask >> place) & 1 == 1]


def conditions(sizes, keys):
    """The dict from the words that are conditions to the masks of the keys that meet them."""
    found = {YES: mask_of([True for _ in keys]), "no": 0}
    for column, size in enumerate(sizes):
        found["b" + str(column)] = mask_of([column not in pattern for _, pattern in keys])
        for worth in range(size):
            found["c" + str(column) + "=" + str(worth)] = mask_of([content[column] == worth for content, _ in keys])
    return found


def read_operand(reader, masks, levels):
    """Read on till behind a condition, with what must stand ahead of it and can stand behind it."""
    while reader.word() in ("not", "("):
        if reader.word() == "not":
            levels[-1].turn()
        else:
            levels.append(Level(masks[YES]))
        reader.step()
    reader.judge(reader.word() in masks)
    levels[-1].take(masks[reader.word()])
    reader.step()
    while reader.word() == ")" and len(levels) > 1:
        inner = levels.pop()
        levels[-1].take(inner.met())
        reader.step()


def read_expression(reader, masks):
    """The mask of the expression that stands here."""
    levels = [Level(masks[YES])]
    read_operand(reader, masks, levels)
    while reader.word() in ("and", "or"):
        if reader.word() == "or":
            levels[-1].begin_other()
        reader.step()
        read_operand(reader, masks, levels)
    reader.judge(len(levels) == 1)
    return levels[0].met()


def read_column(reader, columns):
    names = ["c" + str(column) for column in range(columns)]
    reader.judge(reader.word() in names)
    column = names.index(reader.word())
    reader.step()
    return column


def read_condition(reader, masks):
    """The mask of what stands behind if."""
    reader.judge(reader.word() == "if")
    reader.step()
    return read_expression(reader, masks)


def read_question(sizes, keys, text):
    """The column whose mean is asked for, None for a share, and the masks of what is asked for and behind if."""
    if not isinstance(text, str):
        raise BadText(NO_STRING)
    reader = Reader(text)
    masks = conditions(sizes, keys)
    kind = reader.word()
    reader.judge(kind in (SHARE, MEAN))
    reader.step()
    column = read_column(reader, len(sizes)) if kind == MEAN else None
    wanted = read_expression(reader, masks) if kind == SHARE else masks[YES]
    told = masks[YES] if kind == SHARE and reader.word() == END else read_condition(reader, masks)
    reader.judge(reader.word() == END)
    return (column, wanted, told)


def judge_text(sizes, text):
    # Whether it can stand hangs on no key.
    read_question(sizes, [], text)


def answered(sizes, pairs, text):
    """The answer by pairs of a key (a content and a pattern) and a fraction, whatever their sum is."""
    column, wanted, told = read_question(sizes, [key for key, _ in pairs], text)
    total = added([fraction for _, fraction in marked(told, pairs)])
    if total[0] == 0:
        return None
    rows = marked(wanted & told, pairs)
    if column is not None:
        rows = [(key, (key[0][column] * fraction[0], fraction[1])) for key, fraction in rows]
    return divided(added([fraction for _, fraction in rows]), total)


def asked(whole, text):
    return answered(whole.sizes, whole.shares, text)


def asked_calm(seen, text):
    return asked(calm_whole(seen), text)


def asked_tilted(seen, tilts, text):
    return asked(tilted_whole(seen, tilts), text)


def masks_of_views(many):
    """For each view the mask of its own keys, which stand behind those of the views ahead: so many for each."""
    found = []
    ahead = 0
    for own in many:
        found.append(mask_of([True] * own) << ahead)
        ahead += own
    return found


def bound(seen, in_part, in_rest):
    """Of the shares of the views that are in one of the two, the part of those that are in the first."""
    part = added([fraction for flag, (_, fraction) in zip(in_part, seen.shares) if flag])
    rest = added([fraction for flag, (_, fraction) in zip(in_rest, seen.shares) if flag])
    return divided(part, added([part, rest]))


def bounds(seen, text):
    owns = [[(content, columns_seen(key)) for content in contents_showing(seen.sizes, key)] for key, _ in seen.shares]
    column, wanted, told = read_question(seen.sizes, [key for own in owns for key in own], text)
    if column is not None:
        raise BadText(0)
    masks = masks_of_views([len(own) for own in owns])
    if not any([(told & mask) == mask for mask in masks]):
        return None
    both = [told & wanted & mask for mask in masks]
    beside = [(told & mask) ^ met for met, mask in zip(both, masks)]
    # A view whose share can be kept out of a count is kept out, one that can be counted against is.
    least = bound(seen, [met == mask for met, mask in zip(both, masks)], [met > 0 for met in beside])
    most = bound(seen, [met > 0 for met in both], [met == mask for met, mask in zip(beside, masks)])
    return (least, most)
