"""How parts are passed on by the companies that hold them, in rings too."""

from wholeowns.ratios import ONE, ZERO, divided, minus, plus, times


# What comes back to a company goes out again by the same parts, so in the end the others have it in proportion.
def without_own(row, own):
    left = minus(ONE, row[own])
    spread = [divided(part, left) for part in row]
    spread[own] = ZERO
    return spread


def passed_on(row, by, onward):
    share = row[by]
    kept = list(row)
    kept[by] = ZERO
    return [plus(part, times(share, further)) for part, further in zip(kept, onward)]


# The companies' columns begin at first, in the order of their rows. A company all of whose parts come back to
# itself by then can't be passed through: its column stays. Every other company's column is empty at the end.
def untangled(rows, first):
    done = list(rows)
    for j in range(len(rows)):
        by = first + j
        if done[j][by] != ONE:
            onward = without_own(done[j], by)
            done[j] = onward
            done = [passed_on(row, by, onward) for row in done]
    return done
