"""A task laid out for many cases of it.

The facts that come up are numbered, and a list of them is a whole number with their places (see bits). A case with
such numbers is a position. A child of a position is told by a step: the numbers of its gone and of its must.
"""

from wishshown.bits import how_many, is_within, places_in, union
from wishshown.filling import fillings, head_match
from wishshown.fresh import fresh_words, strange_words, words_in_use
from wishshown.joins import assignments, facts_by, facts_made, filled, rows_by_name, unify, variables_of, words_with
from wishshown.tables import ascending
from wishshown.telling import telling_words
from wishshown.wishes import wanted


class Position:
    """A case on a board.

    made is a list of (place, row, bits) for the rows of the views in the standing facts, one for each witness; it is
    None as long as nobody has asked for it. before is the position of which this one is a child, or None. spoiling
    tells of facts whether they make an unwanted row if they must stand, too, as far as this was looked at.

    free has the rows, with the places of their views, that became free on the way here: they may be there or not,
    whatever is wanted. weighed tells whether a search has weighed the position.
    """

    def __init__(self, gone, must, standing, before):
        self.gone = gone
        self.must = must
        self.standing = standing
        self.before = before
        self.made = None
        self.spoiling = {}
        self.free = ()
        self.price = 0
        self.weighed = False


class Board:
    """A task whose facts are numbered, the facts of the database first.

    With narrow the ways have only those words in use that cannot be replaced by fresh ones. Without prices each
    deleted or inserted fact costs 1. room has for kinds of rows how many rows of the kind that no edit names may be
    there or not, whatever is wanted; others is this number for all other kinds, where None stands for all their rows.
    """

    def __init__(self, task, *, narrow=False, prices=None, room=None, others=0):
        schema, base, views, (edits, may) = task
        self.schema = schema
        self.views = views
        self.rules = [(place, rule) for place, (_, rules) in enumerate(views) for rule in rules]
        self.used = words_in_use(task)
        self.in_use = {word: True for word in self.used}
        self.choices = telling_words(task) if narrow else None
        self.may = {table[0]: pair for table, pair in zip(schema, may)}
        self.prices = {table[0]: (1, 1) if prices is None else prices[place] for place, table in enumerate(schema)}
        self.named = {(place, row): True for place, _, row in edits}
        self.room = {} if room is None else room
        self.others = others
        self.key_widths = {name: key for name, _, key in schema}
        # A dict keeps its order: the wanted rows stand view by view, ascending.
        self.wanted = {(place, row): True for place, wanted_rows in enumerate(wanted(task)) for row in wanted_rows}
        self.known = []
        self.numbers = {}
        self.by_table = {table[0]: 0 for table in schema}
        self.sharers = {}
        # What was found out about wanted rows: how often they were impossible, and what facts they need.
        self.blame = {}
        self.shapes = {}
        # The rows that would make a difference if they were free, as far as this came up.
        self.reasons = {}
        self.base = self.bits_of(base)
        self.fixed = self.bits_of([fact for fact in base if not self.may[fact[0]][0]])

    def bit_of(self, fact):
        """The number with the place of the fact alone; a fact that is new gets the next place."""
        if fact not in self.numbers:
            bit = 1 << len(self.known)
            self.numbers[fact] = bit
            self.known.append(fact)
            self.by_table[fact[0]] |= bit
            key = self.key_of(fact)
            if key is not None:
                self.sharers[key] = self.sharers.get(key, 0) | bit
        return self.numbers[fact]

    def bits_of(self, facts):
        """The number with the places of the facts."""
        return union([self.bit_of(fact) for fact in facts])

    def facts_in(self, bits):
        """The facts whose places are in the number, ascending."""
        return ascending(self.schema, self.listed(bits))

    def listed(self, bits):
        """The facts whose places are in the number, in the order in which they came up."""
        return [self.known[place] for place in places_in(bits)]

    def key_of(self, fact):
        """What facts with the same key have in common; None if the table has no key."""
        name, row = fact
        key = self.key_widths[name]
        return None if key is None else (name, row[:key])

    def position_of(self, case):
        """The position of a case."""
        return self._position((self.bits_of(case[0]), self.bits_of(case[1])), None)

    def moved(self, position, step):
        """The position of a child."""
        child = self._position(step, position)
        child.free = position.free
        return child

    def freed(self, position, each):
        """The position with this row free, besides."""
        other = self._position((position.gone, position.must), None)
        other.made = position.made
        other.free = tuple(sorted([*position.free, each]))
        return other

    def _position(self, step, before):
        gone, must = step
        position = Position(gone, must, self.base & ~gone | must, before)
        position.price = self.cost_of(step)
        return position

    def cost_of(self, step):
        """The price of the change of the case with these numbers."""
        gone, must = step
        inserted = must & ~self.base
        total = 0
        for name, (delete_price, insert_price) in self.prices.items():
            bits = self.by_table[name]
            total += how_many(gone & bits) * delete_price + how_many(inserted & bits) * insert_price
        return total

    def case_of(self, step):
        """The case with these numbers."""
        gone, must = step
        return (self.facts_in(gone), self.facts_in(must))

    def change_of(self, position):
        """The change of a position."""
        return (self.facts_in(position.gone), self.facts_in(position.must & ~self.base))

    def made_in(self, position):
        """What the views have in the standing facts of the position."""
        before = position.before
        if position.made is None and (before is None or before.made is None):
            standing = self.listed(position.standing)
            made = [(place, rule, each) for place, rule in self.rules for each in assignments(standing, rule)]
            position.made = self._distinct([(place, rule, dict(assignment)) for place, rule, assignment in made])
        elif position.made is None:
            tables = rows_by_name(self.listed(position.standing))
            new = self.listed(position.standing & ~before.standing)
            kept = [each for each in before.made if is_within(each[2], position.standing)]
            found = [(place, rule, words) for fact in new for place, rule in self.rules
                     for words in words_with(tables, rule, fact)]
            position.made = kept + self._distinct(found)
        position.before = None
        return position.made

    def _distinct(self, found):
        """What the rules make with these words of their assignments, the same only once."""
        made = [(place, filled(rule[0], words), self.bits_of(facts_by(rule[1], words))) for place, rule, words in found]
        return list({each: True for each in made})

    def kind_of(self, each):
        """The row with its place, and with signs in place of the words that are not in use."""
        place, row = each
        if all(word in self.in_use for word in row):
            return each
        new = [word for count, word in enumerate(row) if word not in self.in_use and word not in row[:count]]
        return (place, tuple([f"?{new.index(word)}" if word in new else word for word in row]))

    def minds(self, position, each):
        """Tell whether the row is not free."""
        if each in self.named or (self.others == 0 and not self.room):
            return True
        if each in position.free:
            return False
        kind = self.kind_of(each)
        room = self.room.get(kind, self.others)
        # If only some rows of a kind can be free, it has to be chosen which ones.
        return room == 0 or (room is not None and kind != each)

    def is_soft(self, position, each):
        """Tell whether the row, which is not free, may become free."""
        if each in self.named or not self.room:
            return False
        kind = self.kind_of(each)
        return self.room.get(kind, 0) > len([other for other in position.free if self.kind_of(other) == kind])

    def note(self, each):
        """Keep in mind that it would make a difference if the row were free."""
        self.reasons[each] = True

    def extras(self, position):
        """The rows that are there and not wanted, each (place, row, bits) with a witness."""
        return [
            each for each in self.made_in(position)
            if each[:2] not in self.wanted and self.minds(position, each[:2])
        ]

    def missing(self, position):
        """The rows that are wanted and not there, each (place, row)."""
        there = {(place, row) for place, row, _ in self.made_in(position)}
        return [each for each in self.wanted if each not in there and self.minds(position, each)]

    def put_blame(self, place, row):
        """Keep in mind that the wanted row was found to be impossible in some position."""
        self.blame[(place, row)] = self.blame.get((place, row), 0) + 1

    def options(self, position, witness):
        """The facts of the witness that can still be deleted."""
        return witness & ~position.must & ~self.fixed

    def extra_steps(self, position, witness, *, bound=None):
        """The children of a node for an extra row with this witness; if bound is given, those that cost less."""
        options = self.options(position, witness)
        must = position.must
        steps = []
        for fact in self.facts_in(witness):
            bit = self.bit_of(fact)
            if bit & options:
                steps.append((position.gone | bit, must))
            must |= bit
        return steps if bound is None else [step for step in steps if self.cost_of(step) < bound]

    def missing_steps(self, position, place, row):
        """The children of a node for a missing row."""
        return self._way_steps(position, place, row, lambda fact, others: self._allows(position, fact, others), None)

    def live_steps(self, position, place, row, *, most, bound):
        """The children of a node for a missing row, but those in which facts that stay make an unwanted row.

        If there are more than most, which can be None, only some of them are returned. If bound is given, children
        that cost as much are left out, too.
        """
        lasting = rows_by_name(self.listed(self._lasting(position)))

        def allows(fact, others):
            if bound is not None and self._price_with(position, others + [fact]) >= bound:
                return False
            return self._keeps_alive(position, lasting, fact, others)

        return self._way_steps(position, place, row, allows, most)

    def _price_with(self, position, facts):
        """The price of the child of a way with these facts."""
        known = self.base | position.must
        own, rivals = 0, 0
        price = position.price
        for fact in sorted(set(facts)):
            bit = self.numbers.get(fact, 0)
            own |= bit
            rivals |= self.sharers.get(self.key_of(fact), 0)
            price += 0 if bit & known else self.prices[fact[0]][1]
        return price + self.cost_of((rivals & position.standing & ~position.must & ~own, 0))

    def _lasting(self, position):
        """The facts that stand in each change of the position that does the wish."""
        return position.must | position.standing & self.fixed

    def _keeps_alive(self, position, lasting, fact, others):
        """Tell whether the fact is allowed, and makes no unwanted row with the others and those that last."""
        if not self._allows(position, fact, others):
            return False
        if fact not in position.spoiling:
            new = not self.numbers.get(fact, 0) & self._lasting(position)
            position.spoiling[fact] = new and self._makes_extra(position, lasting, [], fact)
        return not position.spoiling[fact] and not (others and self._makes_extra(position, lasting, others, fact))

    def _way_steps(self, position, place, row, allows, most):
        """The children for the ways with facts that are allowed; if there are more than most, only some of them."""
        steps = []
        for number, rule in enumerate(self.views[place][1]):
            left = None if most is None else most - len(steps)
            words, further = self._words_for(position, (place, number), row)
            found = fillings(rule, row, words, further=further, allows=allows, most=left)
            steps.extend([self._step(position, facts_made(rule[1], assignment)) for assignment in found])
            if most is not None and len(steps) > most:
                break
        return steps

    def _makes_extra(self, position, lasting, others, fact):
        """Tell whether the fact makes a row that must not be, with the others and with the lasting facts.

        The lasting facts are told by the rows of each name.
        """
        tables = dict(lasting)
        for name, row in others + [fact]:
            tables[name] = tables.get(name, []) + [row]
        for place, rule in self.rules:
            for words in words_with(tables, rule, fact):
                each = (place, filled(rule[0], words))
                if each not in self.wanted and self.minds(position, each) and not self.is_soft(position, each):
                    self.note(each)
                    return True
        return False

    def _words_for(self, position, spot, row):
        """For each variable of the rule at this spot the words that it can have in a way, and the further ones."""
        place, number = spot
        rule = self.views[place][1][number]
        variables = variables_of(rule[1])
        count = len(strange_words(self.used, self.listed(position.must & ~self.base)))
        fresh = fresh_words(self.used, count + len(variables))
        known = {variable: self.used for variable in variables} if self.choices is None else self.choices[spot]
        words = {variable: known[variable] + fresh[:count] for variable in variables}
        bound = head_match(rule, row)
        if bound is not None:
            standing = self.listed(position.standing)
            for atom in rule[1]:
                if not self.may[atom[0]][1]:
                    _keep_fitting(words, atom, bound, standing)
        return (words, fresh[count:])

    def _allows(self, position, fact, others):
        """Tell whether a way with the fact, and with the others, is not out of the question."""
        bit = self.numbers.get(fact, 0)
        if bit & position.gone or (not bit & position.standing and not self.may[fact[0]][1]):
            return False
        key = self.key_of(fact)
        if self.sharers.get(key, 0) & ~bit & position.standing & (position.must | self.fixed):
            return False
        return key is None or not any(other != fact and self.key_of(other) == key for other in others)

    def _step(self, position, facts):
        """The child of a way with these facts."""
        must = position.must | self.bits_of(facts)
        rivals = union([self.sharers.get(self.key_of(fact), 0) for fact in facts])
        return (position.gone | rivals & position.standing & ~must, must)


def _keep_fitting(words, atom, bound, standing):
    """Keep of the words those with which the atom can make one of the standing facts."""
    found = [dict(each) for each in [unify(atom, fact, bound) for fact in standing] if each is not None]
    for variable in variables_of([atom]):
        there = [each[variable] for each in found]
        words[variable] = [word for word in words[variable] if word in there]
