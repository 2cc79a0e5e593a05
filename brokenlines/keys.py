"""What a way costs and the beginning of its last line but one in one number, so that the least is the best."""

SHIFT = 13
LATEST = 8191
# Above all keys: no sum has more than 34 digits.
NEVER = 100000000000000000000000000000000000000000000000000


# Of ways that cost the same the one whose line begins latest is best.
def key_of(extra, before):
    return (extra << SHIFT) + LATEST - before


def extra_of(key):
    return key >> SHIFT


def before_of(key):
    return LATEST - key % (LATEST + 1)
