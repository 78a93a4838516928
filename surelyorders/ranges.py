"""Least words, and how many words there are: below others, between others, unlike earlier ones.

A set of numbers from 0 on is told here by one integer, its mask: the bit of each of them is 1.
"""

from surelyorders.comps import END, LETTERS, column_places


def below_first(comp, word):
    """Return the first word below the word, or None."""
    return Fits(comp, ((word, False),), -1).first()


def below_count(comp, word):
    """Return how many words are below the word, or None if they are without end."""
    return Fits(comp, ((word, False),), -1).many()


def like_count(comp, word):
    """Return how many words are like the word, or None if they are without end."""
    return Fits(comp, ((word, False),), 0).many()


def between(comp, low, high):
    """Return the first word that low is below and that is below high, or None."""
    return Fits(comp, ((low, True), (high, False)), -1).first()


def between_count(comp, low, high):
    """Return how many words there are between, or None if they are without end."""
    return Fits(comp, ((low, True), (high, False)), -1).many()


def least(comp):
    """Return the first word that no word is below, or None."""
    return first_spared(comp, -1)


def greatest(comp):
    """Return the first word that no word is above, or None."""
    return first_spared(comp, 1)


def heads(comp):
    """Return how many words comp tells like no earlier word, or None if they are without end."""
    # The crowd of the empty word, number 0, is good, and no other word comes to it.
    crowds, edges = head_crowds(comp)
    like = verdict_mask(comp, 0)
    good = [less & like == 0 and ended & like == 0 for _, less, _, ended in crowds]
    return count_ways(edges, good)


class Fits:
    """The words that fit: of which comp tells the verdict beside each given word.

    given is a tuple of (word, ahead): whether the given word is told as the first one of both.
    A word is read beside the given ones by one copy of comp for each of them; a state here is
    the number of the tuple of the copies' states. All places behind the given words are one:
    the last of shown and of each list of masks.
    """

    def __init__(self, comp, given, verdict):
        self.comp = comp
        self.given = given
        self.signs = LETTERS[:comp[0]] + END
        self.places = column_places(comp[0])
        self.length = max([len(word) for word, _ in given])
        padded = [word.ljust(self.length, END) for word, _ in given]
        self.shown = ["".join(signs) for signs in zip(*padded)] + [END * len(given)]
        self.states = state_tuples(len(comp[1]), len(given))
        self.moves = {shown: self.moves_beside(shown) for shown in sorted(set(self.shown))}
        self.known_sources = {}
        self.known_targets = {}
        self.ends = self.end_masks(verdict)

    def moves_beside(self, shown):
        """Return for each sign of the word, the end last, the next state of each state."""
        numbers = {states: number for number, states in enumerate(self.states)}
        return [
            [numbers[self.next_states(states, shown, sign)] for states in self.states]
            for sign in self.signs
        ]

    def next_states(self, states, shown, sign):
        """Return the states behind the sign of the word beside what the given words show."""
        found = ()
        for state, other, (_, ahead) in zip(states, shown, self.given):
            # The end beside the end is no column: it leaves the state as it is.
            place = self.places.get(other + sign if ahead else sign + other)
            found = found + (state if place is None else self.comp[1][state][place],)
        return found

    def end_masks(self, verdict):
        """Return for each place the states in which a word that ends there fits."""
        told = [[self.comp[2][state] for state in states] for states in self.states]
        masks = [mask([number for number, row in enumerate(told) if row == [verdict] * len(row)])]
        for shown in self.shown[-2::-1]:
            masks.append(self.sources(shown, masks[-1], self.signs[-1:]))
        return masks[::-1]

    def live_masks(self):
        """Return for each place the states from which some letters lead to a fitting word."""
        live = self.ends[-1]
        for _ in self.states:
            live = live | self.sources(self.shown[-1], live, self.signs[:-1])
        masks = [live]
        for shown, ends in zip(self.shown[-2::-1], self.ends[-2::-1]):
            masks.append(ends | self.sources(shown, masks[-1], self.signs[:-1]))
        return masks[::-1]

    def sources(self, shown, targets, signs):
        """Return the states from which one of the signs leads into the targets."""
        key = (shown, targets, signs)
        if key not in self.known_sources:
            found = 0
            for sign in signs:
                for state, target in enumerate(self.moves[shown][self.signs.index(sign)]):
                    found = found | (targets >> target & 1) << state
            self.known_sources[key] = found
        return self.known_sources[key]

    def targets(self, shown, sources):
        """Return the states into which a letter leads from one of the sources."""
        key = (shown, sources)
        if key not in self.known_targets:
            found = 0
            for nexts in self.moves[shown][:-1]:
                for state, target in enumerate(nexts):
                    found = found | (sources >> state & 1) << target
            self.known_targets[key] = found
        return self.known_targets[key]

    def place(self, index):
        """Return the place at which the word's letter of the index stands."""
        return min(index, self.length)

    def letter_moves(self, index):
        """Return for each letter the next state of each state, for the letter of the index."""
        return self.moves[self.shown[self.place(index)]][:-1]

    def first(self):
        """Return the first word that fits, or None."""
        length = self.least_length()
        if length is None:
            return None
        # From which states just the letters that are left of this length lead to a word that fits.
        leading = [self.ends[self.place(length)]]
        for index in range(length - 1, -1, -1):
            shown = self.shown[self.place(index)]
            leading.append(self.sources(shown, leading[-1], self.signs[:-1]))
        letters = []
        state = 0
        for index, ahead in enumerate(leading[-2::-1]):
            nexts = [row[state] for row in self.letter_moves(index)]
            letter = [ahead >> target & 1 for target in nexts].index(1)
            letters.append(LETTERS[letter])
            state = nexts[letter]
        return "".join(letters)

    def least_length(self):
        """Return how many letters the shortest words that fit have, or None if there are none."""
        come_to = 1
        # Behind the given words the shortest way to a state repeats none.
        for index in range(self.length + len(self.states)):
            if come_to & self.ends[self.place(index)] != 0:
                return index
            come_to = self.targets(self.shown[self.place(index)], come_to)
        return None

    def many(self):
        """Return how many words fit, or None if they are without end."""
        live = self.live_masks()
        if self.is_endless(live):
            return None
        total = 0
        counts = {0: 1}
        # Words with more letters repeat a state behind the given ones, and so are without end.
        for index in range(self.length + len(self.states)):
            ends = self.ends[self.place(index)]
            total += sum([count for state, count in counts.items() if ends >> state & 1])
            counts = self.counts_behind(counts, index, live[self.place(index + 1)])
        return total

    def is_endless(self, live):
        """Tell whether the words that fit are without end, by the live masks."""
        come_to = 1
        # So many letters repeat a state behind the given words: what leads from it to itself can
        # be read as often as one likes, ahead of what leads from it to a word that fits.
        for index in range(self.length + len(self.states)):
            come_to = self.targets(self.shown[self.place(index)], come_to)
            come_to = come_to & live[self.place(index + 1)]
        return come_to != 0

    def counts_behind(self, counts, index, live):
        """Return by how many words each live state is come to behind the letter of the index."""
        found = {}
        for nexts in self.letter_moves(index):
            for state, count in counts.items():
                target = nexts[state]
                if live >> target & 1:
                    found[target] = found.get(target, 0) + count
        return found


def mask(numbers):
    """Return the mask of the numbers."""
    found = 0
    for number in numbers:
        found = found | 1 << number
    return found


def verdict_mask(comp, verdict):
    """Return the mask of the states of comp with the verdict."""
    return mask([state for state, told in enumerate(comp[2]) if told == verdict])


def state_tuples(states, many):
    """Return all the tuples of so many states, that of states 0 first."""
    found = [()]
    for _ in range(many):
        found = [ahead + (state,) for ahead in found for state in range(states)]
    return found


class Images:
    """Where masks of states lead if any of some first signs is read beside each second sign."""

    def __init__(self, comp, firsts, seconds):
        places = column_places(comp[0])
        self.rows = comp[1]
        self.groups = [[places[first + second] for first in firsts] for second in seconds]
        self.known = {}

    def behind(self, sources):
        """Return the masks of the states behind the sources, one for each second sign."""
        if sources not in self.known:
            rows = [row for state, row in enumerate(self.rows) if sources >> state & 1]
            self.known[sources] = [
                mask([row[place] for row in rows for place in group]) for group in self.groups
            ]
        return self.known[sources]


def first_spared(comp, verdict):
    """Return the first word such that comp tells the verdict of no word and it, or None."""
    letters = LETTERS[:comp[0]]
    free_images, ended_images = Images(comp, letters, letters), Images(comp, END, letters)
    told = verdict_mask(comp, verdict)
    # Words of the length of what is read may go on behind it; shorter ones have ended.
    late = leading_mask(Images(comp, letters, END), told)
    # A pair of masks: the states, beside what is read, of the words of its length, and of the
    # shorter ones. Pairs are queued up as they are come to, so each by its first word.
    queue = [(1, 0)]
    ways = {(1, 0): None}
    done = 0
    while done < len(queue):
        pair = queue[done]
        free, ended = pair
        if free & late == 0 and ended & told == 0:
            return spelled(ways, pair)
        pairs = list(zip(free_images.behind(free), ended_images.behind(free | ended)))
        for letter, behind in zip(letters, pairs):
            if behind not in ways:
                ways[behind] = (pair, letter)
                queue.append(behind)
        done += 1
    return None


def leading_mask(images, targets):
    """Return the mask of the states from which some steps, or none, lead into the targets."""
    steps = [images.behind(1 << state)[0] for state in range(len(images.rows))]
    found = targets
    for _ in steps:
        found = found | mask([state for state, ahead in enumerate(steps) if ahead & found != 0])
    return found


def spelled(ways, pair):
    """Return the word by which the pair was come to."""
    letters = []
    way = ways[pair]
    while way is not None:
        letters.append(way[1])
        way = ways[way[0]]
    return "".join(letters[::-1])


def head_crowds(comp):
    """Return all crowds that words come to, and for each the numbers of those behind its letters.

    A crowd is a tuple (same, less, free, ended): the state of the word beside itself, and the
    masks of the states beside it of the words of its length that are ahead of it, of all words
    of its length, and of all shorter ones.
    """
    letters = LETTERS[:comp[0]]
    alike = alike_states(comp)
    passing = passing_masks(comp)
    free_images, ended_images = Images(comp, letters, letters), Images(comp, END, letters)
    crowds = [(0, 0, 1, 0)]
    numbers = {(0, 0, 1, 0): 0}
    edges = []
    while len(edges) < len(crowds):
        same, less, free, ended = crowds[len(edges)]
        next_less = [one | other for one, other in zip(free_images.behind(less), passing[same])]
        next_ended = ended_images.behind(free | ended)
        row = []
        for behind in zip(alike[same], next_less, free_images.behind(free), next_ended):
            if behind not in numbers:
                numbers[behind] = len(crowds)
                crowds.append(behind)
            row.append(numbers[behind])
        edges.append(row)
    return crowds, edges


def alike_states(comp):
    """Return for each state the next one for each letter beside itself."""
    places = column_places(comp[0])
    return [[row[places[letter + letter]] for letter in LETTERS[:comp[0]]] for row in comp[1]]


def passing_masks(comp):
    """Return for each state and letter the mask of the states behind lesser letters beside it."""
    letters = LETTERS[:comp[0]]
    places = column_places(comp[0])
    groups = [
        [places[lesser + letter] for lesser in letters[:index]]
        for index, letter in enumerate(letters)
    ]
    return [[mask([row[place] for place in group]) for group in groups] for row in comp[1]]


def count_ways(edges, good):
    """Return how many ways lead from number 0 to good ones, or None if they are without end.

    edges has for each number those behind it. Ways lead from number 0 to all others, and none
    leads back to it.
    """
    live = leading_to(edges, good)
    behind = [[target for target in row if live[target]] for row in edges]
    waiting = [0] * len(edges)
    for number, row in enumerate(behind):
        for target in row:
            waiting[target] += 1
    counts = [1] + [0] * (len(edges) - 1)
    ready = [0]
    done = 0
    while done < len(ready):
        number = ready[done]
        for target in behind[number]:
            counts[target] += counts[number]
            waiting[target] -= 1
            if waiting[target] == 0:
                ready.append(target)
        done += 1
    # A live number that never gets ready lies on a circle or behind one, and leads to a good one.
    if done < live.count(True):
        return None
    return sum([counts[number] for number in ready if good[number]])


def leading_to(edges, good):
    """Return for each number whether ways, also those of no step, lead from it to a good one."""
    sources = [[] for _ in edges]
    for number, row in enumerate(edges):
        for target in row:
            sources[target].append(number)
    live = list(good)
    queue = [number for number, known in enumerate(good) if known]
    while queue:
        number = queue.pop()
        for source in sources[number]:
            if not live[source]:
                live[source] = True
                queue.append(source)
    return live
