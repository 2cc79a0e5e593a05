"""Characters: their classes, and where lines may end between them."""

# A character of two rows has the document's later one, so the later rows stand first.
ROWS = (
    ("M", ((768, 879), (1425, 1469), (1611, 1631), (8400, 8447))),
    ("N", ((48, 57), (1632, 1641), (1776, 1785))),
    ("A", ((1536, 1983), (64336, 65023), (65136, 65278))),
    ("R", ((1424, 1535), (1984, 2303), (64285, 64335), (67584, 69631))),
    ("L", (
        (65, 90), (97, 122), (170, 170), (181, 181), (186, 186), (192, 214), (216, 246), (248, 687),
        (880, 1423), (2304, 8191), (11264, 12287), (12293, 55295), (63744, 64255), (65536, 1114111),
    )),
)
ISOLATES = ("LI", "RI", "FI", "PI")
WIDE = ((12353, 12543), (13312, 40959), (44032, 55203))
GLUE = (160, 8288)
CLOSING = (33, 41, 44, 46, 58, 59, 63, 93, 125, 8217, 8221, 12289, 12290)
OPENING = (40, 91, 123, 8216, 8220)
STRONG = ("L", "R", "A")
SOFT = 173
BOX = 65532


def lies_in(code, parts):
    for part in parts:
        if part[0] <= code <= part[1]:
            return True
    return False


def class_of(code):
    if code == 10:
        return "B"
    if 8294 <= code <= 8297:
        return ISOLATES[code - 8294]
    for row in ROWS:
        if lies_in(code, row[1]):
            return row[0]
    return "O"


def classes_of(codes):
    known = {}
    for code in codes:
        if code not in known:
            known[code] = class_of(code)
    return [known[code] for code in codes]


def between_strong(kinds, place):
    return place > 0 and kinds[place - 1] in STRONG and kinds[place + 1] in STRONG


# Whether a line may or must end behind the character at this place.
def may_end(codes, kinds, place):
    code = codes[place]
    if code == 10 or place + 1 == len(codes):
        return True
    behind = codes[place + 1]
    if behind in (10, 32, 8203):
        return False
    if code == 8203:
        return True
    if code in GLUE or behind in GLUE or kinds[place + 1] == "M":
        return False
    if code == 32:
        return True
    if behind in CLOSING or code in OPENING:
        return False
    if code == SOFT:
        return True
    if code in (45, 8208) and between_strong(kinds, place):
        return True
    return lies_in(code, WIDE) or lies_in(behind, WIDE)
