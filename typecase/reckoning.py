"""Reckoning over letters and over sets of pages.

A list by letter has at each letter's place how many of it there are; a list by mask has at each mask's place what is
so of that set of pages, from the empty one at 0 to the one of all pages at the end.
"""


def added(some, more):
    return [first + second for first, second in zip(some, more)]


def most_of_each(some, others):
    return [first if first > second else second for first, second in zip(some, others)]


def wanted_together(case, pages, mask):
    wanted = [0] * len(case)
    for number, wants in enumerate(pages):
        if (mask >> number) & 1:
            wanted = added(wanted, wants)
    return wanted


def left_of_each(case, pages, standing):
    taken = wanted_together(case, pages, standing)
    return [there - gone for there, gone in zip(case, taken)]


def lacking_of_each(case, wanted):
    return [wants - there if wants > there else 0 for there, wants in zip(case, wanted)]


def first_lacking(left, wants):
    for letter in range(len(left)):
        if wants[letter] > left[letter]:
            return letter
    return None


def bits_of(mask):
    return [1 << number for number in range(mask.bit_length()) if (mask >> number) & 1]


def wanted_by_mask(case, pages):
    wanted = [[0] * len(case)]
    for wants in pages:
        # The masks with one page more follow on those without it, in the same order.
        wanted = wanted + [added(without, wants) for without in wanted]
    return wanted


def can_stand_by_mask(case, pages):
    return [first_lacking(case, wanted) is None for wanted in wanted_by_mask(case, pages)]


def is_fullest(can_stand, mask):
    others = (len(can_stand) - 1) ^ mask
    return can_stand[mask] and not any([can_stand[mask | bit] for bit in bits_of(others)])


def fullest_masks(can_stand):
    return [mask for mask in range(len(can_stand)) if is_fullest(can_stand, mask)]


# The parts that may come next, rising: the parts stand in order of their lowest pages, so each has the rest's lowest.
def next_parts(rest):
    bits = bits_of(rest)
    parts = [bits[0]]
    for bit in bits[1:]:
        parts = parts + [part | bit for part in parts]
    return parts


def each_stands_alone(can_stand):
    return all([can_stand[bit] for bit in bits_of(len(can_stand) - 1)])


# By mask, in how few parts that can stand its pages can be parted; each page has to stand alone at the least.
def fewest_parts_by_mask(can_stand):
    fewest = [0]
    for rest in range(1, len(can_stand)):
        fewest.append(1 + min([fewest[rest ^ part] for part in next_parts(rest) if can_stand[part]]))
    return fewest


def first_fewest_row(can_stand):
    fewest = fewest_parts_by_mask(can_stand)
    row = []
    rest = len(can_stand) - 1
    while rest != 0:
        # Parts that can stand and leave the fewest behind them; the lesser mask counts where several do.
        parts = [part for part in next_parts(rest) if can_stand[part] and fewest[rest ^ part] < fewest[rest]]
        row.append(parts[0])
        rest = rest ^ parts[0]
    return row


# The cheaper of best and of the first cheapest row that begins so: what's bought in all, of each letter, and the row.
# Rows come in their order, so a later one has to be cheaper; and what a beginning costs, each row with it costs too.
def cheaper_row(lacking, rest, turns, each, row, best):
    total = sum(each)
    if best is not None and total >= best[0]:
        return best
    if rest == 0:
        return (total, each, row)
    parts = [rest] if turns == 1 else next_parts(rest)
    for part in parts:
        best = cheaper_row(lacking, rest ^ part, turns - 1, most_of_each(each, lacking[part]), row + [part], best)
    return best


def first_cheapest_row(case, pages, turns):
    lacking = [lacking_of_each(case, wanted) for wanted in wanted_by_mask(case, pages)]
    return cheaper_row(lacking, len(lacking) - 1, turns, [0] * len(case), [], None)


# By mask of what stood before a forme: how little is set behind the forme, and the first mask to stand at it for that.
# yet: by mask of what stands at the forme, how little is set behind it.
def best_by_mask_before(can_stand, forme, yet):
    best = []
    for before in range(len(can_stand)):
        # To keep not all of it is to keep what could have been kept of one page less.
        choices = [best[before ^ bit] for bit in bits_of(before)]
        stands = forme | before
        if can_stand[stands]:
            choices.append((yet[stands], stands))
        best.append(min(choices))
    return best


# How many letters are set for these formes, each of which can stand, and the first row of masks for that.
def least_plan(case, pages, standing, formes):
    can_stand = can_stand_by_mask(case, pages)
    letters = [sum(wanted) for wanted in wanted_by_mask(case, pages)]
    yet = [0] * len(can_stand)
    steps = []
    for forme in reversed(formes):
        best = best_by_mask_before(can_stand, forme, yet)
        yet = [letters[forme & ~before] + best[before][0] for before in range(len(can_stand))]
        steps.append(best)
    masks = []
    before = standing
    for best in reversed(steps):
        before = best[before][1]
        masks.append(before)
    return (yet[standing], masks)
