"""Words that are read side by side, and the spots that they come to.

A walk has a few words and up to three readers: comparisons, each of which reads two of the
words, or one of them beside itself. A spot tells what some steps have come to: which of the
words have ended, and the state of each reader. Spots are numbers that ascend as the tuples
(ends, state, state, state) do; ahead of all steps the spot is 0.
"""

from surelyorders.comps import END, LETTERS, column_places, columns

READERS = 3


class Walk:
    """Where each step leads from each spot.

    readers is a tuple of (comp, first, second): a comparison and the indexes of its two words.
    """

    def __init__(self, words, readers):
        letters = readers[0][0][0]
        # A walk of fewer readers gets ones of one state, so that there is one kind of spot.
        still = (letters, ((0,) * len(columns(letters)),), (0,))
        filled = list(readers) + [(still, 0, 0)] * (READERS - len(readers))
        self.words = words
        self.readers = len(readers)
        self.verdicts = [comp[2] for comp, _, _ in filled]
        self.sizes = [len(comp[1]) for comp, _, _ in filled]
        self.block = self.sizes[0] * self.sizes[1] * self.sizes[2]
        self.ends = all_ends(words)
        self.steps = [steps_from(letters, ends) for ends in self.ends]
        self.tables = [self.table(filled, steps) for steps in self.steps]

    def table(self, readers, steps):
        """Return for each reader and each of its states what each step adds to the next spot."""
        weights = (self.sizes[1] * self.sizes[2], self.sizes[2], 1)
        blocks = [self.block * self.ends.index(ends_behind(step)) for step in steps]
        added = [blocks, [0] * len(steps), [0] * len(steps)]
        found = []
        for reader, weight, more in zip(readers, weights, added):
            found.append([
                [state * weight + extra for state, extra in zip(row, more)]
                for row in next_states(reader, steps)
            ])
        return found

    def parts(self, spot):
        """Return the index of the spot's ends and the states of the three readers."""
        rest, third = divmod(spot, self.sizes[2])
        rest, second = divmod(rest, self.sizes[1])
        ends, first = divmod(rest, self.sizes[0])
        return (ends, first, second, third)

    def behind(self, spot):
        """Return the spots behind the steps from this one, in the order of the steps."""
        ends, first, second, third = self.parts(spot)
        ones, twos, threes = self.tables[ends]
        rows = zip(ones[first], twos[second], threes[third])
        return [one + two + three for one, two, three in rows]

    def steps_at(self, spot):
        """Return the steps from the spot, each the text of the words' signs."""
        return self.steps[spot // self.block]

    def told_at(self, spot):
        """Return the verdicts of the readers."""
        _, first, second, third = self.parts(spot)
        return (self.verdicts[0][first], self.verdicts[1][second], self.verdicts[2][third])

    def item(self, spot):
        """Return the tuple of the spot's ends and the states of the readers."""
        parts = self.parts(spot)
        return (self.ends[parts[0]],) + parts[1:self.readers + 1]

    def spot(self, ends, states):
        """Return the spot with these ends and these states of the readers."""
        number = self.ends.index(ends)
        for size, state in zip(self.sizes, list(states) + [0] * (READERS - len(states))):
            number = number * size + state
        return number


def all_ends(words):
    """Return all the tuples of bools for so many words, ascending."""
    found = [()]
    for _ in range(words):
        found = [ends + (ended,) for ends in found for ended in (False, True)]
    return found


def steps_from(letters, ends):
    """Return the steps that words with these ends can take."""
    found = [""]
    for ended in ends:
        signs = END if ended else END + LETTERS[:letters]
        found = [step + sign for step in found for sign in signs]
    # The first one is the end of all the words, which is no step.
    return found[1:]


def ends_behind(step):
    """Return the ends behind the step."""
    return tuple([sign == END for sign in step])


def next_states(reader, steps):
    """Return for each state of the reader the next ones, one for each step."""
    comp, first, second = reader
    places = column_places(comp[0])
    pairs = [step[first] + step[second] for step in steps]
    # The end beside the end is no column: words that have both ended leave the state as it is.
    return [
        [row[places[pair]] if pair in places else state for pair in pairs]
        for state, row in enumerate(comp[1])
    ]


def searched(walk, wanted):
    """Return the spots come to, in layers by how many steps, and the first wanted ones.

    wanted is a function of a spot's verdicts. The layers end with the first that holds a wanted
    spot; where there is none, they hold all spots that words come to.
    """
    seen = {0: True}
    layer = [0]
    layers = []
    while layer:
        layers.append(layer)
        found = [spot for spot in layer if wanted(walk.told_at(spot))]
        if found:
            return layers, found
        layer = []
        # Sorted spots are looked up faster, where there are many: their neighbours stand near.
        for behind in sorted({near for spot in layers[-1] for near in walk.behind(spot)}):
            if behind not in seen:
                seen[behind] = True
                layer.append(behind)
    return layers, []


def first_words(walk, wanted):
    """Return the first tuple of words that comes to a wanted spot, or None."""
    layers, found = searched(walk, wanted)
    if not found:
        return None
    # No spot of a layer is come to in fewer steps; so the layers alone tell all shortest ways.
    layers[-1] = found
    chosen = [""] * (len(layers) - 1)
    # Words of one tuple are compared one behind another, each whole: the signs of the first
    # word are chosen for all steps, then those of the second one, and so on.
    for _ in range(walk.words):
        layers = leading(walk, layers, chosen)
        layers, chosen = least_signs(walk, layers, chosen)
    return tuple([
        "".join([signs[word] for signs in chosen]).rstrip(END) for word in range(walk.words)
    ])


def leading(walk, layers, chosen):
    """Return the layers without the spots from which no chosen steps lead to the last layer."""
    kept = [layers[-1]]
    for layer, signs in zip(layers[-2::-1], chosen[::-1]):
        ahead = {spot: True for spot in kept[-1]}
        kept.append([spot for spot in layer if leads(walk, spot, signs, ahead)])
    return kept[::-1]


def leads(walk, spot, signs, ahead):
    """Tell whether a step that begins with the signs leads from the spot to one of those ahead."""
    for step, behind in zip(walk.steps_at(spot), walk.behind(spot)):
        if behind in ahead and step.startswith(signs):
            return True
    return False


def least_signs(walk, layers, chosen):
    """Return the layers, and the chosen signs with one sign more, the least for the next word.

    The layers are those of leading; what is returned of them is come to by the chosen signs.
    """
    kept = [layers[0]]
    longer = []
    for layer, signs in zip(layers[1:], chosen):
        ahead = {spot: True for spot in layer}
        best, reached = least_step(walk, kept[-1], signs, ahead)
        longer.append(best)
        kept.append(reached)
    return kept, longer


def least_step(walk, spots, signs, ahead):
    """Return the least signs, one more than these, that lead ahead, and the spots behind them."""
    best = None
    reached = {}
    for spot in spots:
        for step, behind in zip(walk.steps_at(spot), walk.behind(spot)):
            if behind not in ahead or not step.startswith(signs):
                continue
            taken = step[:len(signs) + 1]
            if best is None or taken < best:
                best = taken
                reached = {}
            if taken == best:
                reached[behind] = True
    return best, list(reached)
