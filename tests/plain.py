"""The words of the document, taken as plainly as can be, to compare the program with them; and tables by chance."""

from sixdot.table import Rule, Table


def fits(rule, text, place):
    if not text[place:].startswith(rule.text):
        return False
    before = "^" if place == 0 else text[place - 1]
    rest = text[place + len(rule.text):]
    after = rest[0] if rest else "$"
    if rule.ahead is not None and before not in list(rule.ahead):
        return False
    return rule.behind is None or after in list(rule.behind)


def ways(table, text, place=0, mode=0):
    """Returns the list of all ways to write the text from the place on."""
    if place == len(text):
        return [[]]
    return [
        [number, *way]
        for number, rule in enumerate(table.rules)
        if rule.mode == mode and fits(rule, text, place)
        for way in ways(table, text, place + len(rule.text), rule.to)
    ]


def row(table, way):
    return [cell for number in way for cell in table.rules[number].cells]


def writings(table, text):
    """Returns the ascending list of all writings."""
    rows = []
    for way in ways(table, text):
        if row(table, way) not in rows:
            rows.append(row(table, way))
    return sorted(rows)


def best(table, text):
    """Returns the best writing and the best way, or None."""
    found = [(len(row(table, way)), row(table, way), way) for way in ways(table, text)]
    return min(found)[1:] if found else None


def accepts(table, text, numbers):
    """Returns True if numbers with the right lengths are accepted."""
    if any(number > 0 for number in numbers[-1]):
        return False
    return all(
        numbers[place][rule.mode] <= len(rule.cells) + numbers[place + len(rule.text)][rule.to]
        for place in range(len(text) + 1)
        for rule in table.rules
        if fits(rule, text, place)
    )


def made_table(chance, signs="ab", most_rules=9, cells=3):
    """Returns a small table, made by chance, in which much fits and much is ambiguous."""
    modes = chance.randint(1, 3)

    def neighbour(edge):
        free = signs + edge
        return None if chance.random() < 0.6 else "".join(chance.sample(free, chance.randint(1, len(free))))

    return Table(signs, modes, [
        Rule(
            chance.randrange(modes),
            "".join(chance.choices(signs, k=chance.choice([1, 1, 1, 2, 2, 3, 4]))),
            chance.choices(range(cells), k=chance.choice([1, 1, 2, 2, 3, 4])),
            chance.randrange(modes),
            ahead=neighbour("^"),
            behind=neighbour("$"),
        )
        for _ in range(chance.randint(1, most_rules))
    ])


def made_text(chance, signs="ab", most=7):
    return "".join(chance.choices(signs, k=chance.randint(0, most)))


def state_of(table):
    """Returns all that a table has, to tell if it changed."""
    rules = [(r.mode, r.text, tuple(r.cells), r.to, r.ahead, r.behind) for r in table.rules]
    return table.signs, table.modes, rules


def courses(table, row, mode=0):
    """Returns the list of all courses of a row whose first rule has the mode, before their neighbours are looked at."""
    if not row:
        return [[]]
    return [
        [number, *course]
        for number, rule in enumerate(table.rules)
        if rule.mode == mode and row[:len(rule.cells)] == rule.cells
        for course in courses(table, row[len(rule.cells):], rule.to)
    ]


def has_neighbours(table, course):
    """Returns True if each rule of a course has the neighbours that it asks for in the text of the course."""
    text = "".join(table.rules[number].text for number in course)
    place = 0
    for number in course:
        if not fits(table.rules[number], text, place):
            return False
        place += len(table.rules[number].text)
    return True


def texts(table, row):
    """Returns the ascending list of the texts of a row."""
    found = [course for course in courses(table, row) if has_neighbours(table, course)]
    return sorted({"".join(table.rules[number].text for number in course) for course in found})


def spots(table):
    return [(-1, 0)] + [(r, k + 1) for r, rule in enumerate(table.rules) for k in range(len(rule.cells))]


def next_spots(table, spot, cell):
    """Returns the spots to which a spot goes on, in the words of point 18."""
    number, read = spot
    if spot != (-1, 0) and read < len(table.rules[number].cells):
        return [(number, read + 1)] if table.rules[number].cells[read] == cell else []
    found = []
    for r, rule in enumerate(table.rules):
        mode, last, behind = (0, "^", None)
        if spot != (-1, 0):
            mode, last, behind = table.rules[number].to, table.rules[number].text[-1], table.rules[number].behind
        if rule.cells[0] != cell or rule.mode != mode:
            continue
        if rule.ahead is not None and last not in rule.ahead:
            continue
        if behind is not None and rule.text[0] not in behind:
            continue
        found.append((r, 1))
    return found


def can_end(table, spot):
    if spot == (-1, 0):
        return True
    rule = table.rules[spot[0]]
    return spot[1] == len(rule.cells) and (rule.behind is None or "$" in rule.behind)


def spots_behind(table, row):
    """Returns the ascending list of the spots of a reader that was given a row."""
    found = [(-1, 0)]
    for cell in row:
        found = sorted({further for spot in found for further in next_spots(table, spot, cell)})
    return found


def added(table, spot):
    return table.rules[spot[0]].text if spot[1] == 1 else ""


def next_pairs(table, pair, lead):
    """Returns the list of the tuples (cell, pair, lead), in the words of point 21."""
    found = []
    for cell in range(64):
        for first in next_spots(table, pair[0], cell):
            for second in next_spots(table, pair[1], cell):
                further = None
                if lead is not None:
                    side, part = lead
                    one = (part if side == 0 else "") + added(table, first)
                    other = (part if side == 1 else "") + added(table, second)
                    if one[:len(other)] == other:
                        further = (0, one[len(other):])
                    elif other[:len(one)] == one:
                        further = (1, other[len(one):])
                found.append((cell, (first, second), further))
    return found


def is_hopeful(table, pair):
    met = [pair]
    for one in met:
        if can_end(table, one[0]) and can_end(table, one[1]):
            return True
        for _, further, _ in next_pairs(table, one, None):
            if further not in met:
                met.append(further)
    return False


def accepts_paper(table, paper):
    """Returns True if a paper is accepted, in the words of point 23."""
    kept, hopeless = paper
    known = spots(table)
    for first, second, (side, part) in kept:
        if first not in known or second not in known or side not in (0, 1) or (side == 1 and not part):
            return False
    if any(first not in known or second not in known for first, second in hopeless):
        return False
    if ((-1, 0), (-1, 0), (0, "")) not in kept:
        return False
    for first, second, lead in kept:
        if can_end(table, first) and can_end(table, second) and lead != (0, ""):
            return False
        for _, pair, further in next_pairs(table, (first, second), lead):
            if pair not in hopeless and (further is None or (*pair, further) not in kept):
                return False
    for pair in hopeless:
        if can_end(table, pair[0]) and can_end(table, pair[1]):
            return False
        if any(further not in hopeless for _, further, _ in next_pairs(table, pair, None)):
            return False
    return True


def rows(cells, most):
    """Returns all rows of these cells with at most so many, shorter ones first, those of a length ascending."""
    found = [[]]
    level = [[]]
    for _ in range(most):
        level = [row + [cell] for row in level for cell in cells]
        found.extend(level)
    return found


def joined_cost(shape, line):
    return 50 if line[:len(shape.marks.joined)] == shape.marks.joined else 0


def cost_of_lines(shape, lines):
    """Returns the cost of lines, in the words of point 27."""
    return sum((shape.width - len(line)) ** 2 for line in lines[:-1]) + sum(joined_cost(shape, line) for line in lines)


def breakings(shape, mark, row, cell=0):
    """Returns all lists of lines into which the row can be broken from the cell on, the first one with the mark."""
    found = []
    for end in range(cell + 1, len(row) + 1):
        line = mark + tuple(row[cell:end])
        if len(line) > shape.width:
            break
        if end == len(row):
            found.append([line])
        else:
            found.extend([line, *rest] for rest in breakings(shape, shape.marks.joined, row, end))
            if row[end] == 0 and end + 1 < len(row):
                found.extend([line, *rest] for rest in breakings(shape, shape.marks.on, row, end + 1))
    return found


def accepts_line_prices(shape, mark, row, prices):
    """Returns True if prices, one pair for each cell, are accepted, in the words of point 28."""
    for cell in range(len(row)):
        for way in (0, 1):
            if (way == 1 and cell == 0) or (way == 0 and cell > 0 and (cell == 1 or row[cell - 1] != 0)):
                continue
            begin = mark if cell == 0 else (shape.marks.on, shape.marks.joined)[way]
            for end in range(cell + 1, len(row) + 1):
                many = len(begin) + end - cell
                if many > shape.width:
                    break
                limits = [0] if end == len(row) else [(shape.width - many) ** 2 + 50 + prices[end][1]]
                if end + 1 < len(row) and row[end] == 0:
                    limits.append((shape.width - many) ** 2 + prices[end + 1][0])
                if prices[cell][way] > min(limits):
                    return False
    return True


def page_may_end(blocks, lines, at):
    """Returns True if a page may end ahead of a line, in the words of point 34."""
    told = [(block, number, many) for block, many in zip(blocks, lines) for number in range(many)]
    block, number, many = told[at - 1]
    if block[0] == "head":
        return at == len(told)
    if many == 1:
        return True
    # Behind the first line, or ahead of the last one, which is the one with the number at.
    return number != 0 and number + 1 != many - 1


def stops(blocks, lines):
    return [sum(lines[:k + 1]) for k, block in enumerate(blocks) if block[0] == "break"]


def may_be_page(height, blocks, lines, begin, end):
    if not (0 <= begin < end <= sum(lines) and end - begin <= height - 1):
        return False
    return page_may_end(blocks, lines, end) and not any(begin < stop < end for stop in stops(blocks, lines))


def page_cost(height, blocks, lines, begin, end):
    return 0 if end in stops(blocks, lines) or end == sum(lines) else (height - 1 - (end - begin)) ** 2


def pagings(height, blocks, lines, begin=0):
    """Returns all lists of the ends of pages, from the line on."""
    if begin == sum(lines):
        return [[]]
    return [
        [end, *rest]
        for end in range(begin + 1, sum(lines) + 1)
        if may_be_page(height, blocks, lines, begin, end)
        for rest in pagings(height, blocks, lines, end)
    ]


def page_sum(height, blocks, lines, ends):
    return sum(page_cost(height, blocks, lines, begin, end) for begin, end in zip([0, *ends], ends))


def last_beginning(height, blocks, lines):
    reached = [0]
    for begin in reached:
        for end in range(begin + 1, sum(lines)):
            if end not in reached and may_be_page(height, blocks, lines, begin, end):
                reached.append(end)
    return max(reached)


def accepts_prices(height, blocks, lines, ends, prices):
    """Returns True if prices are accepted for pages, in the words of point 36."""
    total = sum(lines)
    pages = list(zip([0, *ends], ends))
    if len(prices) != total + 1 or prices[-1] != 0 or [0, *ends][-1] != total:
        return False
    if not all(may_be_page(height, blocks, lines, begin, end) for begin, end in pages):
        return False
    for begin in range(total):
        for end in range(begin + 1, total + 1):
            if may_be_page(height, blocks, lines, begin, end):
                cost = page_cost(height, blocks, lines, begin, end) + prices[end]
                if prices[begin] > cost or ((begin, end) in pages and prices[begin] != cost):
                    return False
    return True


def digits(number):
    return tuple(int(digit) + 1 for digit in str(number))


def pressed_label(label):
    cells = digits(label[0])
    for number in label[1:]:
        cells += (11, *digits(number))
    return cells


def begin_of(shape, block):
    """Returns the cells with which the first line of a block begins, in the words of point 31."""
    marks = shape.marks
    if block[0] == "item":
        return marks.depths[block[1] - 1]
    if block[0] == "note":
        return (*marks.note, *digits(block[1]), 0)
    return {"head": marks.head, "par": marks.par, "break": marks.stop}[block[0]]


def form_fault(shape, volumes):
    """Returns the first fault of form, in the words of point 39, or None."""
    if volumes == []:
        return (), "empty"
    labels, lines = [], []
    for v, volume in enumerate(volumes):
        if not volume or len(volume) > shape.size:
            return (v,), "size"
        for s, (label, front, back) in enumerate(volume):
            if not label or min(label) < 0 or label[-1] == 0 or (labels and not label > labels[-1]):
                return (v, s), "label"
            labels.append(label)
            for p, page in enumerate((front, back)):
                if p == 1 and not page:
                    continue
                if len(page) < 2 or len(page) > shape.height:
                    return (v, s, p), "lines"
                for k, line in enumerate(page):
                    if k == len(page) - 1:
                        if line != shape.marks.number + pressed_label(label):
                            return (v, s, p, k), "number"
                        continue
                    reason = line_reason(shape, line, lines[-1] if lines else None, k == len(page) - 2)
                    if reason:
                        return (v, s, p, k), reason
                    lines.append(line)
    return None


def line_reason(shape, line, before, is_last):
    marks = shape.marks
    if any(cell not in range(64) for cell in line):
        return "cell"
    nine = [marks.head, marks.par, *marks.depths, marks.note, marks.stop, marks.on, marks.joined]
    found = [mark for mark in nine if line[:len(mark)] == mark]
    if not found:
        return "mark"
    if len(line) > shape.width:
        return "wide"
    begin = found[0]
    if begin == marks.stop:
        return None if line == marks.stop and is_last else "stop"
    if begin == marks.note:
        begins = [(*marks.note, *digits(label), 0) for label in range(1, 100)]
        begins = [longer for longer in begins if line[:len(longer)] == longer]
        if not begins:
            return "note"
        begin = begins[0]
    if begin in (marks.on, marks.joined) and before in (None, marks.stop):
        return "begin"
    return None if len(line) > len(begin) else "short"


def parts(chance, many):
    """Returns a list of numbers of at least 1 with this sum."""
    found = []
    while many:
        found.append(chance.randint(1, min(many, 4)))
        many -= found[-1]
    return found


def made_layout(chance, shape, table, book):
    """Returns volumes that are a layout of the book, made by chance."""
    lines = []
    for block in book.blocks:
        begin = begin_of(shape, block)
        if block[0] == "break":
            lines.append(begin)
        else:
            row = chance.choice(writings(table, block[-1]))
            lines.extend(made_breaking(chance, shape, begin, row))
    pages = [[]]
    for line in lines:
        full = len(pages[-1]) == shape.height - 1 or pages[-1][-1:] == [shape.marks.stop]
        if pages[-1] and (full or chance.random() < 0.3):
            pages.append([])
        pages[-1].append(line)
    sheets, label = [], (chance.randint(0, 2), 1)
    while pages:
        sides = [pages.pop(0)]
        if pages and chance.random() < 0.7:
            sides.append(pages.pop(0))
        sides = [(*page, shape.marks.number + pressed_label(label)) for page in sides]
        sheets.append((label, sides[0], sides[1] if len(sides) == 2 else ()))
        label = chance.choice([label + (0, 1), label[:-1] + (label[-1] + 1,), (label[0] + 1,), (label[0] + 12, 0, 3)])
    volumes = []
    for many in parts(chance, len(sheets)):
        for size in [shape.size] * (many // shape.size) + [many % shape.size]:
            if size:
                volumes.append([sheets.pop(0) for _ in range(size)])
    return volumes


def made_breaking(chance, shape, begin, row):
    """Returns lines into which the row is broken, made by chance."""
    lines, cell = [], 0
    while cell < len(row):
        end = chance.randint(cell + 1, min(len(row), cell + shape.width - len(begin)))
        lines.append(begin + tuple(row[cell:end]))
        begin, cell = shape.marks.joined, end
        if end + 1 < len(row) and row[end] == 0 and chance.random() < 0.7:
            begin, cell = shape.marks.on, end + 1
    return lines
