"""The document's words as plainly as they can be written down, slow and with no shortcuts: what the package is
held against on texts that are made up."""


def klass(c):
    if c == 10:
        return "B"
    if c in (8294, 8295, 8296, 8297):
        return {8294: "LI", 8295: "RI", 8296: "FI", 8297: "PI"}[c]
    got = "O"
    if (65 <= c <= 90 or 97 <= c <= 122 or c in (170, 181, 186) or (192 <= c <= 687 and c not in (215, 247))
            or 880 <= c <= 1423 or 2304 <= c <= 8191 or (11264 <= c <= 55295 and not 12288 <= c <= 12292)
            or 63744 <= c <= 64255 or (65536 <= c <= 1114111 and not 67584 <= c <= 69631)):
        got = "L"
    if 1424 <= c <= 1535 or 1984 <= c <= 2303 or 64285 <= c <= 64335 or 67584 <= c <= 69631:
        got = "R"
    if (1536 <= c <= 1983 and not 1632 <= c <= 1641 and not 1776 <= c <= 1785) or 64336 <= c <= 65023 \
            or 65136 <= c <= 65278:
        got = "A"
    if 48 <= c <= 57 or 1632 <= c <= 1641 or 1776 <= c <= 1785:
        got = "N"
    if 768 <= c <= 879 or 1425 <= c <= 1469 or 1611 <= c <= 1631 or 8400 <= c <= 8447:
        got = "M"
    return got


def matching(ks, p):
    depth = 0
    for q in range(p, len(ks)):
        if ks[q] in ("LI", "RI", "FI"):
            depth += 1
        elif ks[q] == "PI":
            depth -= 1
            if depth == 0:
                return q
    return None


def look(ks):
    p = 0
    while p < len(ks):
        if ks[p] in ("LI", "RI", "FI"):
            q = matching(ks, p)
            if q is None:
                return 0
            p = q + 1
            continue
        if ks[p] == "L":
            return 0
        if ks[p] in ("R", "A"):
            return 1
        p += 1
    return 0


def paragraphs(text):
    out, start = [], 0
    for p, c in enumerate(text):
        if c == 10:
            out.append((start, p + 1))
            start = p + 1
    if start < len(text):
        out.append((start, len(text)))
    return out


def paragraph_levels(ks, side):
    n = len(ks)
    base = [None] * n
    run = [None] * n
    stack = [(side, 0)]
    runs = 1
    opened = []
    for p, k in enumerate(ks):
        if k == "PI" and opened:
            if opened.pop():
                stack.pop()
        base[p], run[p] = stack[-1]
        if k in ("LI", "RI", "FI"):
            odd = k == "RI"
            if k == "FI":
                q = matching(ks, p)
                odd = look(ks[p + 1:q] if q is not None else ks[p + 1:]) == 1
            new = stack[-1][0] + 1
            while new % 2 != (1 if odd else 0):
                new += 1
            if new <= 60:
                stack.append((new, runs))
                runs += 1
                opened.append(True)
            else:
                opened.append(False)
        if k == "B":
            base[p] = side
    level = list(base)
    for r in range(runs):
        places = [p for p in range(n) if run[p] == r and ks[p] != "B"]
        if not places:
            continue
        emb = base[places[0]]
        own = "LR"[emb % 2]
        c = [ks[p] for p in places]
        for i in range(len(c)):
            if c[i] == "M":
                prev = c[i - 1] if i else own
                c[i] = "O" if prev in ("LI", "RI", "FI", "PI") else prev
        d = list(c)
        for i in range(len(c)):
            if c[i] == "N":
                strong = ([own] + [x for x in c[:i] if x in "LRA"])[-1]
                d[i] = {"A": "AN", "L": "L", "R": "N"}[strong]
        d = ["R" if x == "A" else x for x in d]
        e = list(d)
        for i in range(len(d)):
            if d[i] in ("L", "R", "N", "AN"):
                continue
            before = ([own] + [x for x in d[:i] if x in ("L", "R", "N", "AN")])[-1]
            behind = ([x for x in d[i:] if x in ("L", "R", "N", "AN")] + [own])[0]
            before = "L" if before == "L" else "R"
            behind = "L" if behind == "L" else "R"
            e[i] = before if before == behind else own
        for p, x in zip(places, e):
            if emb % 2 == 0:
                level[p] = emb + {"L": 0, "R": 1, "N": 2, "AN": 2}[x]
            else:
                level[p] = emb + {"L": 1, "R": 0, "N": 1, "AN": 1}[x]
    return level


def wide_sign(c):
    return 12353 <= c <= 12543 or 13312 <= c <= 40959 or 44032 <= c <= 55203


def may_end_behind(text, p):
    c = text[p]
    if c == 10 or p == len(text) - 1:
        return True
    d = text[p + 1]
    for holds, answer in (
        (d == 10, False),
        (d in (32, 8203), False),
        (c == 8203, True),
        (c in (160, 8288) or d in (160, 8288), False),
        (klass(d) == "M", False),
        (c == 32, True),
        (d in (33, 41, 44, 46, 58, 59, 63, 93, 125, 8217, 8221, 12289, 12290), False),
        (c in (40, 91, 123, 8216, 8220), False),
        (c == 173, True),
        (c in (45, 8208) and p > 0 and klass(text[p - 1]) in "LRA" and klass(d) in "LRA", True),
        (wide_sign(c) or wide_sign(d), True),
    ):
        if holds:
            return answer
    return False


class Font:
    def __init__(self, data):
        self.width, self.chars, self.pairs, self.joins = [], {}, {}, {}
        self.bases, self.marks, self.names = {}, {}, {}
        for row in bytes(data).decode().splitlines():
            w = row.split()
            if w[0] == "font":
                self.U, self.A, self.D, self.G = map(int, w[1:])
            elif w[0] == "letter":
                self.names[w[1]] = len(self.width)
                self.width.append(int(w[2]))
            elif w[0] == "char":
                self.chars[int(w[1])] = self.names[w[2]]
            elif w[0] == "pair":
                self.pairs[self.names[w[1]], self.names[w[2]]] = int(w[3])
            elif w[0] == "join":
                self.joins[self.names[w[1]], self.names[w[2]]] = self.names[w[3]]
            elif w[0] == "base":
                self.bases[self.names[w[1]], int(w[2])] = (int(w[3]), int(w[4]))
            elif w[0] == "mark":
                self.marks[self.names[w[1]]] = (int(w[2]), int(w[3]), int(w[4]))

    def scaled(self, n, s):
        return (2 * n * s + self.U) // (2 * self.U)


class Plain:
    def __init__(self, side, wide, indent, setting, way, spans, boxes, bands, text, fonts):
        self.side, self.wide, self.indent, self.setting, self.way = side, wide, indent, setting, way
        self.text = text
        self.fonts = [Font(f) for f in fonts]
        self.spans = [spans[i:i + 3] for i in range(0, len(spans), 3)]
        self.boxes = [boxes[i:i + 3] for i in range(0, len(boxes), 3)]
        self.bands = [bands[i:i + 4] for i in range(0, len(bands), 4)]
        self.span_of = [s for s, sp in enumerate(self.spans) for _ in range(sp[0])]
        self.box_of = {}
        for p, c in enumerate(text):
            if c == 65532:
                self.box_of[p] = len(self.box_of)
        self.paras = []
        self.level = []
        for a, b in paragraphs(text):
            ks = [klass(c) for c in text[a:b]]
            own = look(ks) if side == 2 else side
            self.paras.append((a, b, own))
            self.level += paragraph_levels(ks, own)
        self.up = max([self.fonts[f].scaled(self.fonts[f].A, s) for _, f, s in self.spans]
                      + [b[1] for b in self.boxes], default=0)
        self.down = max([self.fonts[f].scaled(self.fonts[f].D, s) for _, f, s in self.spans]
                        + [b[2] for b in self.boxes], default=0)
        self.gap = max([self.fonts[f].scaled(self.fonts[f].G, s) for _, f, s in self.spans], default=0)
        self.high = max(1, self.up + self.down + self.gap)
        self.shapes = {}
        self.touched = {}

    def touching(self, i):
        if i not in self.touched:
            self.touched[i] = [b for b in self.bands if max(b[0], i * self.high) < min(b[1], (i + 1) * self.high)]
        return self.touched[i]

    def left(self, i):
        return max([b[2] for b in self.touching(i)], default=0)

    def right(self, i):
        return max([b[3] for b in self.touching(i)], default=0)

    def room(self, i, first):
        return max(0, self.wide - self.left(i) - self.right(i) - (self.indent if first else 0))

    def shape(self, a, b):
        """Letters as seen: [span, letter, place, x, up, more], and the width; more is what caret asks for: the
        characters, the room, whether the level is odd, whether it counts as placed on the one before it."""
        if (a, b) in self.shapes:
            return self.shapes[a, b]
        text = self.text
        e = b
        while e > a and text[e - 1] in (10, 32):
            e -= 1
        order = list(range(a, b))
        top = max(self.level[a:b], default=0)
        odd = [v for v in self.level[a:b] if v % 2]
        for v in range(top, min(odd, default=top + 1) - 1, -1):
            i = 0
            while i < len(order):
                j = i
                while j < len(order) and self.level[order[j]] >= v:
                    j += 1
                order[i:j] = order[i:j][::-1]
                i = j + 1
        stretch = {}
        number = -1
        for p in range(a, b):
            if (p == a or self.level[p] != self.level[p - 1] or self.span_of[p] != self.span_of[p - 1]
                    or p in self.box_of or p - 1 in self.box_of):
                number += 1
            stretch.setdefault(number, []).append(p)
        where = {p: n for n, ps in stretch.items() for p in ps}
        x = 0
        out = []
        done = []
        for p in order:
            if where[p] in done:
                continue
            done.append(where[p])
            got, x = self.stretch(stretch[where[p]], e, x)
            out += got
        self.shapes[a, b] = out, x
        return out, x

    def stretch(self, places, e, x):
        p = places[0]
        span = self.span_of[p]
        if p in self.box_of:
            n = self.box_of[p]
            more = {"chars": [p], "room": self.boxes[n][0], "odd": self.level[p] % 2, "placed": False}
            return [[span, -1 - n, p, x, 0, more]], x + self.boxes[n][0]
        font, size = self.fonts[self.spans[span][1]], self.spans[span][2]
        odd = self.level[p] % 2
        row = []
        for p in places:
            c = self.text[p]
            if p >= e or c == 10 or 8294 <= c <= 8297:
                continue
            if c == 173:
                if p != e - 1:
                    continue
                c = 45
            if odd:
                c = {40: 41, 41: 40, 60: 62, 62: 60, 91: 93, 93: 91, 123: 125, 125: 123}.get(c, c)
            row.append([font.chars.get(c, 0), p, [p]])
        i = 0
        while i + 1 < len(row):
            if (row[i][0], row[i + 1][0]) in font.joins:
                row[i:i + 2] = [[font.joins[row[i][0], row[i + 1][0]], row[i][1], row[i][2] + row[i + 1][2]]]
            else:
                i += 1
        on = [None] * len(row)
        for i in range(len(row)):
            if row[i][0] in font.marks:
                j = i - 1
                while j >= 0 and on[j] is not None:
                    j -= 1
                if j >= 0 and row[j][0] not in font.marks and (row[j][0], font.marks[row[i][0]][0]) in font.bases:
                    on[i] = j
        seen = []
        bodies = [i for i in range(len(row)) if on[i] is None]
        for i in (reversed(bodies) if odd else bodies):
            seen.append(i)
            seen += [k for k in range(len(row)) if on[k] == i]
        out = []
        before = None
        stands = None
        for i in seen:
            letter, place, chars = row[i]
            room = font.scaled(font.width[letter], size)
            placed = on[i] is not None or (room == 0 and letter in font.marks and len(out) > 0)
            more = {"chars": chars, "room": room, "odd": odd, "placed": placed}
            if on[i] is not None:
                kind, mx, my = font.marks[letter]
                bx, by = font.bases[row[on[i]][0], kind]
                out.append([span, letter, place, stands + font.scaled(bx, size) - font.scaled(mx, size),
                            font.scaled(by, size) - font.scaled(my, size), more])
                continue
            if before is not None:
                two = (letter, before) if odd else (before, letter)
                x += font.scaled(font.pairs.get(two, 0), size)
            stands = x
            out.append([span, letter, place, x, 0, more])
            x += room
            before = letter
        return out, x

    def width(self, a, b):
        return self.shape(a, b)[1]

    def ends(self, a, b):
        return [p + 1 for p in range(a, b) if may_end_behind(self.text, p)]

    def line_for(self, i, a, q, first):
        while self.touching(i) and self.width(a, q) > self.room(i, first):
            i += 1
        return i

    def way0(self, a, b, i):
        ends = self.ends(a, b)
        out = []
        p = a
        while p < b:
            behind = [q for q in ends if q > p]
            i = self.line_for(i, p, behind[0], p == a)
            room = self.room(i, p == a)
            q = behind[0]
            for r in behind:
                if self.width(p, r) > room:
                    break
                q = r
            out.append((i, p, q))
            i += 1
            p = q
        return out

    def cost(self, i, p, q, a, b):
        left = self.room(i, p == a) - self.width(p, q)
        sum_ = 2 ** 32 + left * left if left < 0 else 0 if q == b else left * left
        return sum_ + (10 ** 6 if self.text[q - 1] == 173 else 0)

    def way1(self, a, b, i):
        """Each way is carried whole: its sum, where its lines begin (empty ones left out), and its lines."""
        ends = self.ends(a, b)
        states = {(a, i): (0, (), ())}
        final = None
        for p in [a] + ends[:-1]:
            first = ends[0] if p == a else [q for q in ends if q > p][0]
            for (at, line) in sorted(s for s in states if s[0] == p):
                total, begins, way = states[at, line]
                j = self.line_for(line, p, first, p == a)
                begins = (-p,) + begins
                for q in ends:
                    if q <= p:
                        continue
                    new = (total + self.cost(j, p, q, a, b), begins, way + ((j, p, q),))
                    if q == b:
                        key = (new[0], j, begins)
                        if final is None or key < final[0]:
                            final = key, new[2]
                    elif (q, j + 1) not in states or new[:2] < states[q, j + 1][:2]:
                        states[q, j + 1] = new
        return list(final[1])

    def all_ways(self, a, b, i):
        """Every way there is, one by one: for paragraphs of few places."""
        ends = self.ends(a, b)
        best = None
        for bits in range(1 << (len(ends) - 1)):
            stops = [q for k, q in enumerate(ends) if k == len(ends) - 1 or bits >> k & 1]
            p, line, total, way, begins = a, i, 0, [], []
            for q in stops:
                j = self.line_for(line, p, [r for r in ends if r > p][0], p == a)
                begins.append(p)
                total += self.cost(j, p, q, a, b)
                way.append((j, p, q))
                p, line = q, j + 1
            key = (total, line, [-x for x in reversed(begins)])
            if best is None or key < best[0]:
                best = key, way
        return best[1]

    def broken(self, whole=False):
        out = []
        for a, b, side in self.paras:
            i = out[-1][0] + 1 if out else 0
            how = self.way0 if self.way == 0 else self.all_ways if whole else self.way1
            out += [(j, p, q, p == a, q == b, side) for j, p, q in how(a, b, i)]
        return out

    def laid(self, whole=False):
        for i, p, q, first, last, side in self.broken(whole):
            letters, width = self.shape(p, q)
            letters = [list(g) for g in letters]
            room = self.room(i, first)
            rest = room - width
            toobig = int(rest < 0)
            blanks = [k for k, g in enumerate(letters) if self.text[g[2]] == 32]
            setting = self.setting
            if setting == 3:
                setting = 0
                if rest > 0 and not last and blanks:
                    more = [rest // len(blanks) + (1 if n < rest % len(blanks) else 0) for n in range(len(blanks))]
                    for n, k in enumerate(blanks):
                        letters[k][5] = dict(letters[k][5], added=more[n])
                        for g in letters[k + 1:]:
                            g[3] += more[n]
                    width += rest
                    rest = 0
            begin = self.begin(i, first, side, setting, rest)
            yield i, p, q, begin, width, i * self.high + self.up, toobig, letters

    def begin(self, i, first, side, setting, rest):
        begin = self.left(i) + (self.indent if first and side == 0 else 0)
        if setting == 2:
            return begin + rest // 2
        return begin + rest if (setting == 0) == (side == 1) else begin

    def lines(self, whole=False):
        rows = []
        for i, p, q, begin, width, y, toobig, _ in self.laid(whole):
            while len(rows) < i:
                rows.append([p, p, 0, 0, len(rows) * self.high + self.up, 0])
            rows.append([p, q, begin, width, y, toobig])
        if len(rows) > 8192:
            return [-6]
        return [len(rows)] + sum(rows, [])

    def letters(self):
        rows = [[i, g[0], g[1], g[2], begin + g[3], y - g[4]]
                for i, p, q, begin, width, y, toobig, got in self.laid() for g in got]
        return [len(rows)] + sum(rows, [])

    def behind(self, letters, k):
        """Behind a letter; behind a mark, and before it, that's behind what it's placed on, and it moves with what
        the blanks up to it took more."""
        b = k
        while letters[b][5]["placed"]:
            b -= 1
        x, more = letters[b][3], letters[b][5]
        if b < k:
            x += sum(g[5].get("added", 0) for g in letters[b:k])
            return x if letters[k][5]["odd"] else x + more["room"]
        return x if more["odd"] else x + more["room"] + more.get("added", 0)

    def before(self, letters, p):
        """Before character p of a line, from its letters' beginning on; None if it has no letter."""
        for k, g in enumerate(letters):
            if p in g[5]["chars"]:
                if g[5]["placed"]:
                    return self.behind(letters, k)
                room = g[5]["room"] + g[5].get("added", 0)
                part = room * g[5]["chars"].index(p) // len(g[5]["chars"])
                return g[3] + room - part if g[5]["odd"] else g[3] + part
        return None

    def stand(self, row, p):
        """Where one stands in a laid line before p."""
        i, a, b, begin, width, y, toobig, letters = row
        x = self.before(letters, p) if p < b else None
        if x is not None:
            return begin + x
        for q in range(p - 1, a - 1, -1):
            for k, g in enumerate(letters):
                if q in g[5]["chars"]:
                    return begin + self.behind(letters, k)
        side = [s for c, d, s in self.paras if c <= a < d][0]
        return begin if side == 0 else begin + width

    def caret(self, p):
        n = len(self.text)
        if p > n:
            return [-5]
        rows = list(self.laid())
        if p == n and (n == 0 or self.text[-1] == 10):
            i = rows[-1][0] + 1 if rows else 0
            side = self.paras[-1][2] if rows else int(self.side == 1)
            x = self.begin(i, True, side, 0 if self.setting == 3 else self.setting, self.room(i, True))
        else:
            row = [r for r in rows if r[1] <= p < r[2]] or rows[-1:]
            i, x = row[0][0], self.stand(row[0], p)
        return [i, x, i * self.high, (i + 1) * self.high]

    def at(self, x, y):
        rows = list(self.laid())
        if not rows:
            return [0]
        row = ([r for r in rows if r[0] >= y // self.high] or rows[-1:])[0]
        places = list(range(row[1], row[2]))
        if row[2] == len(self.text) and self.text[-1] != 10:
            places.append(row[2])
        return [min(places, key=lambda p: (abs(self.stand(row, p) - x), p))]

    def widths(self):
        least, most = [0], [0]
        for a, b, _ in self.paras:
            most.append(self.width(a, b))
            ends = self.ends(a, b)
            least += [self.width(p, q) for p, q in zip([a] + ends, ends)]
        return [0, max(least), max(most)]

    def heights(self):
        many = max([row[0] + 1 for row in self.broken()], default=0)
        return [0, self.high, self.up, self.down, self.gap, many * self.high]
