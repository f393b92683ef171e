"""Questions row by row, by the words of the document: [160] to [169], [221], [241].

Borders and guesses are dicts here, by their names in the layout, and everything
is done slowly and apart from the program.
"""

from itertools import product

from anylength.clauses import count, due
from anylength.orders import extensions, orders, ranks
from anylength.questions import guessed, layout
from tests.slow import (
    back,
    guard,
    named,
    slow_begin,
    slow_clause,
    slow_items,
    slow_sum,
    slow_visit,
    source,
    split,
)
from tests.support import slow_holds


def is_call(item):
    return item[0] == "call"


class Asked:
    """A question with its clauses, its items and their names."""

    def __init__(self, question):
        self.question = question
        self.library, self.unit, self.aim = question
        self.units = self.library[1]
        self.contract, self.body = self.units[self.unit]
        self.other = self.units[self.aim[1]] if self.aim[0] == "same" else None
        self.before = self.contract[2] + (self.other[0][2] if self.other else ())
        self.items = slow_items(question)
        self.clause, self.sum = slow_clause(question), slow_sum(question)
        self.own = len(self.body[0]) if self.other else len(self.items)
        self.first = [(0, 0)]
        for item in self.items:
            keys, bits = self.many(item)
            self.first.append((self.first[-1][0] + keys, self.first[-1][1] + bits))
        self.border_names, (self.entry_names, self.column_names) = layout(question), guessed(question)
        self.watched = [(("before", c), clause) for c, clause in enumerate(self.before)]

    def many(self, item):
        if is_call(item):
            return self.units[item[1]][0][1]
        return tuple(sum(term[0] == letter for term in item[4]) for letter in "rf")

    def terms(self, told, i=0):
        """What x, p, n and g terms stand for in item i, by a border or a guess as a dict."""
        found = {place[1]: value for place, value in told.items() if place[0] == "name"}
        if i < self.own:
            return found
        # Behind its own ones the names of the other unit are numbered from 0 again.
        keys, bits = self.first[self.own]
        ours = {name: value for name, value in found.items() if name[0] in "xp"}
        for name, value in found.items():
            at = int(name[1:]) - {"n": keys, "g": bits}.get(name[0], 0)
            if name[0] in "ng" and at >= 0:
                ours[f"{name[0]}{at}"] = value
        return ours

    def made(self, told, i):
        """What item i makes, as the two tuples of keys and bits."""
        (key, bit), (key_end, bit_end) = self.first[i], self.first[i + 1]
        return (tuple(told["name", f"n{at}"] for at in range(key, key_end)),
                tuple(told["name", f"g{at}"] for at in range(bit, bit_end)))

    def passed(self, told, call):
        names = self.terms(told)
        return tuple(tuple(source(names, one) for one in part) for part in call[2:4])

    def makes(self, told, call):
        return guard(self.terms(told), call[4])

    def givens(self, told):
        xs, ps = self.contract[0]
        return (tuple(told["name", f"x{at}"] for at in range(xs)),
                tuple(told["name", f"p{at}"] for at in range(ps)))

    def value(self, told):
        return told.get(("value", "v0"), 0)

    def read(self, told):
        """What the clause of the question reads: givens and results as terms."""
        if self.aim[0] in ("call", "falls"):
            return named("xp", self.passed(told, self.body[0][self.aim[1]]))
        return {**named("xp", self.givens(told)), **named("yq", back(self.terms(told), self.body))}

    def as_dict(self, names, told):
        return dict(zip((*names[0], *names[1]), (*told[0], *told[1])))

    def as_pair(self, told):
        keys, bits = self.border_names
        return tuple(told[place] for place in keys), tuple(told[place] for place in bits)


def slow_enter(question, keys, bits):
    """The pair of weight and border, or None: [165]."""
    asked = Asked(question)
    told = asked.as_dict(asked.entry_names, (keys, bits))
    givens = named("xp", asked.givens(told))
    if not all(slow_holds(one[1], givens) for one in asked.before if one[0] == "names"):
        return None
    weight = 1
    if asked.sum:
        weight = -slow_due(asked, told)
    for i, item in enumerate(asked.items):
        made = asked.made(told, i)
        if not is_call(item):
            continue
        after = asked.units[item[1]][0][3]
        if asked.makes(told, item):
            view = {**named("xp", asked.passed(told, item)), **named("yq", made)}
            if not all(slow_holds(one[1], view) for one in after if one[0] == "names"):
                return None
            if asked.sum and slow_bracket(asked, item):
                shares = slow_bracket(asked, item)[0][3]
                weight += due(shares, asked.passed(told, item), made, asked.value(told))
        elif any(made[0]) or any(made[1]):
            return None
    if asked.aim[0] in ("call", "falls") and not asked.makes(told, asked.body[0][asked.aim[1]]):
        return None
    if asked.clause and asked.clause[0] == "names" and slow_holds(asked.clause[1], asked.read(told)):
        return None
    border = {place: 0 for place in asked.border_names[0]}
    border.update({place: False for place in asked.border_names[1]})
    border.update(told)
    for i, item in enumerate(asked.items):
        if item[0] == "up":
            terms = asked.terms(told, i)
            set_state(border, i, slow_begin(item, tuple(letter(terms, one) for one in "xpng")))
        elif item[0] == "down" and results(border, i, item) != asked.made(told, i):
            return None
    if asked.other:
        mine = back(asked.terms(told), asked.body)
        border["goal", "hit"] = mine != back(asked.terms(told, asked.own), asked.other[1])
    return (0 if asked.aim[0] == "seen" else weight), asked.as_pair(border)


def slow_due(asked, told):
    if asked.aim[0] == "falls":
        return -asked.contract[4][1]
    results = back(asked.terms(told), asked.body)
    return due(asked.clause[3], asked.givens(told), results, asked.value(told))


def slow_bracket(asked, call):
    """The change clauses that could be the bracket of a call, the bracket first."""
    formula, many = asked.sum
    after = asked.units[call[1]][0][3]
    return [one for one in after if one[0] == "change" and one[1] == formula and one[2] == many]


def letter(terms, one):
    """The values of the terms with a letter, in their order."""
    return tuple(terms[name] for name in sorted(terms) if name[0] == one)


def state_of(border, i, walk):
    """The state of the walk, item i."""
    return (tuple(border["item", i, f"r{at}"] for at in range(len(walk[1]))),
            tuple(border["item", i, f"f{at}"] for at in range(len(walk[2]))))


def set_state(border, i, state):
    border.update({("item", i, f"r{at}"): value for at, value in enumerate(state[0])})
    border.update({("item", i, f"f{at}"): value for at, value in enumerate(state[1])})


def results(border, i, walk):
    told = {term: border["item", i, term] for term in walk[4]}
    return (tuple(told[term] for term in walk[4] if term[0] == "r"),
            tuple(told[term] for term in walk[4] if term[0] == "f"))


class Refused(Exception):
    """A part refuses the row."""


def first_row(found, now):
    return {**named("wu", split(found)), **named("km", split(now))}


def second_row(found, now):
    return {**named("WU", split(found)), **named("KM", split(now))}


def slow_watch(border, place, clause, broken, names, found, now, picked=False):
    """The turn of a watch, whose state is that at the places that begin so: [161]."""
    kind, formula = clause
    mine = {one[-1]: one for one in border if one[:-1] == place}
    words = [word for word in ("begun", "seen", "hit", "held") if word in mine]
    kept = {word: border[mine[word]] for word in mine if word not in words}
    first = {**names, **first_row(found, now)}
    met = slow_holds(formula, first) if kind in ("each", "some") else None
    behind = None
    if kind in ("next", "pairs"):
        behind = lambda: slow_holds(formula, {**names, **kept, **second_row(found, now)})

    def put(**told):
        border.update({mine[word]: told[word] for word in told})

    def keep():
        border.update({mine[word]: first[word] for word in kept})

    def let_go():
        border.update({mine[word]: 0 if isinstance(kept[word], int) and not isinstance(kept[word], bool)
                       else False for word in kept})

    if kind == "each" and not broken or kind == "some" and broken:
        if met == broken:
            raise Refused
    elif kind == "some":
        put(seen=border[mine["seen"]] or met)
    elif kind == "each":
        put(hit=border[mine["hit"]] or not met)
    elif kind == "next" and not broken:
        if border[mine["begun"]] and not behind():
            raise Refused
        put(begun=True)
        keep()
    elif kind == "next":
        if not border[mine["hit"]]:
            if border[mine["begun"]] and not behind():
                let_go()
                put(hit=True, begun=False)
            else:
                put(begun=True)
                keep()
    elif picked:
        if border[mine["hit"]] or border[mine["held"]]:
            raise Refused
        put(held=True)
        keep()
    elif border[mine["held"]] and not behind():
        let_go()
        put(hit=True, held=False)


def slow_cross(question, border, keys, bits):
    """The pair of weight and border, or None: [166]."""
    asked = Asked(question)
    told = asked.as_dict(asked.border_names, border)
    guess = asked.as_dict(asked.column_names, (keys, bits))
    try:
        weight = slow_line(asked, told, guess)
    except Refused:
        return None
    return weight, asked.as_pair(told)


def guessed_row(asked, guess, place):
    fields, marks = asked.library[0]
    return (*(guess[(*place, f"k{at}")] for at in range(fields)),
            *(guess[(*place, f"m{at}")] for at in range(marks)))


def slow_line(asked, border, guess):
    """The weight of a column; the border becomes the one behind the row."""
    found = now = guessed_row(asked, guess, ("found",))
    picked, weight = guess.get(("pick",), False), 0
    givens = named("xp", asked.givens(border))
    for place, clause in asked.watched:
        if clause[0] != "names":
            slow_watch(border, place, clause, False, givens, found, found)
    aside = None
    for i, item in enumerate(asked.items):
        if asked.other and i == asked.own:
            aside, now = now, found
        ahead = now
        if is_call(item):
            now = slow_ghost(asked, border, i, item, guessed_row(asked, guess, ("item", i)), now)
        else:
            now = slow_walk(asked, border, guess, i, item, now)
        if asked.sum and not (is_call(item) and slow_bracket(asked, item)):
            value = asked.value(border)
            weight += count(asked.sum[0], value, (now,)) - count(asked.sum[0], value, (ahead,))
    if asked.other:
        if aside is None:
            aside, now = now, found
        border["goal", "hit"] = border["goal", "hit"] or now != aside
    elif asked.aim[0] == "seen":
        slow_hold(asked, border, picked, first_row(found, now))
    elif asked.clause and asked.clause[0] in ("each", "some", "next", "pairs"):
        beginning = now if asked.aim[0] == "call" else found
        slow_watch(border, ("goal",), asked.clause, True, asked.read(border), beginning, now, picked)
    return weight


def slow_ghost(asked, border, i, call, ghost, now):
    """The turn of a call: [163]."""
    if not asked.makes(border, call):
        if ghost != now:
            raise Refused
        return now
    names = {**named("xp", asked.passed(border, call)), **named("yq", asked.made(border, i))}
    for c, clause in enumerate(asked.units[call[1]][0][3]):
        if clause[0] in ("each", "next", "some"):
            slow_watch(border, ("item", i, c), clause, False, names, now, ghost)
    return ghost


def slow_walk(asked, border, guess, i, walk, now):
    """The turn of a walk: [163]."""
    terms = asked.terms(border, i)
    names = tuple(letter(terms, one) for one in "xpng")
    begun = state_of(border if walk[0] == "up" else guess, i, walk)
    _, left, rewritten = slow_visit(walk, names, begun, now)
    if walk[0] == "down":
        if left != state_of(border, i, walk):
            raise Refused
        left = begun
    set_state(border, i, left)
    return rewritten


def slow_hold(asked, border, picked, row):
    """The turn of the goal with the aim "seen": [221]."""
    if picked:
        if border["goal", "held"]:
            raise Refused
        border["goal", "held"] = True
        for term in (*asked.aim[1], *asked.aim[2]):
            if term[0] in "wkum":
                border["goal", term] = row[term]


def slow_complete(question, border):
    """Whether the border is complete: [167]."""
    asked = Asked(question)
    told = asked.as_dict(asked.border_names, border)
    right = []
    for i, item in enumerate(asked.items):
        if is_call(item):
            if asked.makes(told, item):
                right += [value for place, value in told.items()
                          if place[:2] == ("item", i) and place[-1] == "seen"]
        elif item[0] == "up":
            right.append(results(told, i, item) == asked.made(told, i))
        else:
            terms = asked.terms(told, i)
            begun = slow_begin(item, tuple(letter(terms, one) for one in "xpng"))
            right.append(state_of(told, i, item) == begun)
    right += [value for place, value in told.items() if place[0] == "before" and place[-1] == "seen"]
    right += [value for place, value in told.items() if place == ("goal", "hit")]
    if asked.aim[0] == "seen":
        right += [value for place, value in told.items() if place == ("goal", "held")]
    return all(right)


def every_bits(many):
    return list(product((False, True), repeat=many))


def slow_entries(question):
    """The entries, by a search through all guesses: [201]."""
    keys, bits = Asked(question).entry_names
    found = set()
    for order in orders(len(keys)):
        for some in every_bits(len(bits)):
            met = slow_enter(question, order, some)
            if met:
                found.add((ranks(met[1][0]), met[1][1], met[0]))
    return tuple(sorted(found))


def slow_columns(question, picture):
    """The allowed columns from a picture, by a search through all orders that extend its keys."""
    keys, bits = Asked(question).column_names
    found = []
    for order in extensions(picture[0], len(keys)):
        for some in every_bits(len(bits)):
            many = len(picture[0])
            met = slow_cross(question, (order[:many], picture[1]), order[many:], some)
            if met:
                found.append((order, some, met[0], (ranks(met[1][0]), met[1][1])))
    return tuple(sorted(found))


def slow_reached(question, rows):
    """For each number of rows up to this one the dict from pictures to the sets of their weights."""
    now = {}
    for keys, bits, weight in slow_entries(question):
        now.setdefault((keys, bits), set()).add(weight)
    found = [now]
    known = {}
    for _ in range(rows):
        further = {}
        for picture, weights in now.items():
            if picture not in known:
                known[picture] = slow_columns(question, picture)
            for _, _, more, behind in known[picture]:
                further.setdefault(behind, set()).update(weight + more for weight in weights)
        found.append(further)
        now = further
    return found
