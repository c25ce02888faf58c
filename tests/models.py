"""The document's words once more, as plainly as they can be said, for comparisons with the package."""


class Draws:
    """Choices that look arbitrary and are always the same."""

    def __init__(self, seed):
        self.state = seed

    def below(self, many):
        self.state = (self.state * 6364136223846793005 + 1442695040888963407) % 2 ** 64
        return (self.state >> 33) % many

    def one(self, things):
        return things[self.below(len(things))]

    def between(self, low, high):
        return low + self.below(high - low + 1)


class Model:
    """A live hearer by [5], [6], [25], [26] and [62] to [66], which works all out from the start each time."""

    def __init__(self, book, events=()):
        self.book, self.events = book, list(events)
        self.sender, self.road, self.hearer = book
        self.begins, self.arrivals, self.answers, self.showings = [], [], [], []
        self.opened, self.remembered = [], {}
        # What each arrival did, for the causes; open texts there are the sets of the texts of their parts.
        self.deeds = []
        for event in events:
            apply = {'begin': self.begin, 'hear': self.hear, 'hearer': self.change}[event[0]]
            self.answers.append(apply(*event[1:]))

    def begin(self, moment, number):
        self.begins.append((moment, number))
        return len(self.begins) - 1

    def change(self, *hearer):
        self.hearer = hearer
        dropped = []
        while len(self.opened) > hearer[2]:
            if hearer[3] == 'newest':
                victim = max(self.opened, key=lambda each: each['opening'])
            else:
                victim = self.victim(hearer[3])
            self.opened.remove(victim)
            dropped.append(victim['number'])
        return tuple(dropped)

    def victim(self, drop):
        return min(self.opened, key=lambda each: each['opening'] if drop == 'eldest' else each['last'])

    def hear(self, moment, text, part):
        n, number, turn = self.sender[2], self.begins[text][1], len(self.arrivals)
        wait, memory, room, drop = self.hearer
        self.arrivals.append((moment, text, part))
        forgotten = [each for each in self.opened if moment - each['opened'] > wait]
        self.opened = [each for each in self.opened if moment - each['opened'] <= wait]
        self.remembered = {m: t for m, t in self.remembered.items() if moment - t <= memory}
        deed = {'text': text, 'forgotten': [set(each['texts']) for each in forgotten], 'dropped': None, 'ahead': None}
        self.deeds.append(deed)
        mine = [each for each in self.opened if each['number'] == number]
        dropped = None
        if number in self.remembered:
            deed['word'] = 'swallowed'
            return ('swallowed', None, False)
        if mine:
            one = mine[0]
            deed['ahead'] = set(one['texts']) - {None}
            word = 'comes' if one['texts'][part] is None else 'again'
            if word == 'comes':
                one['texts'][part] = text
        else:
            if n > 1 and len(self.opened) == room:
                if drop == 'newest':
                    deed['word'] = 'refused'
                    return ('refused', None, False)
                victim = self.victim(drop)
                self.opened.remove(victim)
                dropped = victim['number']
                deed['dropped'] = set(victim['texts'])
            word = 'opens'
            one = {'number': number, 'opened': moment, 'opening': turn, 'texts': [None] * n}
            one['texts'][part] = text
            self.opened.append(one)
        deed['word'] = word
        one['heard'], one['last'] = moment, turn
        shows = None not in one['texts']
        if shows:
            self.opened.remove(one)
            self.remembered[number] = moment
            self.showings.append((moment, number, tuple(one['texts'])))
        return (word, dropped, shows)

    def open_rows(self):
        return tuple((each['number'], each['opened'], each['heard'], tuple(each['texts'])) for each in self.opened)

    def remembered_pairs(self):
        return tuple(sorted(self.remembered.items()))

    def shown(self):
        whole = [texts[0] for _, _, texts in self.showings if len(set(texts)) == 1]
        return tuple((text, whole.count(text)) for text in sorted(set(whole)))

    def missed(self):
        n = self.sender[2]
        whole = [text for text, _ in self.shown()]
        return tuple(text for text in range(len(self.begins)) if text not in whole
                     and all(any(a[1:] == (text, part) for a in self.arrivals) for part in range(n)))

    def harms(self):
        harms = {'missed'} if self.missed() else set()
        harms |= {'joined' for _, _, texts in self.showings if len(set(texts)) > 1}
        harms |= {'twice' for _, many in self.shown() if many > 1}
        return tuple(sorted(harms))

    def causes(self, text):
        """The causes of a missed text by [6]."""
        causes = set()
        for deed in self.deeds:
            own, ahead = deed['text'] == text, deed['ahead'] or set()
            if own and deed['word'] == 'swallowed':
                causes.add('swallowed')
            if any(text in texts for texts in deed['forgotten']):
                causes.add('late')
            if text in (deed['dropped'] or set()) or (own and deed['word'] == 'refused'):
                causes.add('crowded')
            if own and deed['word'] in ('comes', 'again') and ahead - {text}:
                causes.add('joined')
            if not own and deed['word'] == 'comes' and text in ahead:
                causes.add('joined')
        return tuple(sorted(causes))

    def copies(self, text):
        return tuple(sum(a[1:] == (text, part) for a in self.arrivals) for part in range(self.sender[2]))

    def reason(self, event, most=40):
        """Why an event by form is not possible, or None."""
        if len(self.events) >= most:
            return 'full'
        (a, b, n, copies, numbers, pause), (d, late) = self.sender, self.road
        if event[0] == 'begin':
            _, moment, number = event
            if number >= numbers:
                return 'number'
            if self.begins:
                before, last = self.begins[-1]
                paced = a <= moment - before <= b and number == (last + 1) % numbers
                stopped = pause is not None and moment - before >= pause and number == 0
                return None if paced or stopped else 'pace'
            return None
        if event[0] == 'hear':
            _, moment, text, part = event
            if text >= len(self.begins):
                return 'text'
            if part >= n:
                return 'part'
            if not self.begins[text][0] + d <= moment <= self.begins[text][0] + d + late:
                return 'span'
            if self.arrivals and moment < self.arrivals[-1][0]:
                return 'order'
            return 'copy' if self.copies(text)[part] >= copies else None
        return 'same' if event[1:] == self.hearer else None


def any_book(draws):
    """A book of small numbers."""
    a = draws.between(1, 3)
    pause = draws.one((None, None, a + draws.below(6)))
    sender = (a, a + draws.below(3), draws.one((1, 2, 2, 2, 3)), draws.between(1, 3), draws.between(1, 5), pause)
    hearer = (draws.below(8), draws.below(6), draws.between(1, 3), draws.one(('eldest', 'newest', 'slowest')))
    return (sender, (draws.below(3), draws.below(8)), hearer)


def any_run(draws, book, most=8, lost=4):
    """A run of the book; of each part about one copy in lost does not arrive."""
    (a, b, n, copies, numbers, pause), (d, late), _ = book
    begins, arrivals = [], []
    for _ in range(draws.below(most + 1)):
        if not begins:
            begins.append((draws.between(-9, 9), draws.below(numbers)))
        elif pause is not None and not draws.below(3):
            begins.append((begins[-1][0] + pause + draws.below(3), 0))
        else:
            begins.append((begins[-1][0] + draws.between(a, b), (begins[-1][1] + 1) % numbers))
    for text, (moment, _) in enumerate(begins):
        for part in range(n):
            for _ in range(copies):
                if draws.below(lost):
                    arrivals.append((moment + d + draws.between(0, late), draws.below(99), text, part))
    return (tuple(begins), tuple((t, text, part) for t, _, text, part in sorted(arrivals)))


def model_of(book, run):
    """The model of a hearer behind a whole run."""
    return Model(book, [('begin',) + each for each in run[0]] + [('hear',) + each for each in run[1]])


def all_begins(book, many):
    """The beginnings of so many texts, from 0 on, in all ways; stops are as short as can be or by 1 longer."""
    a, b, _, _, numbers, pause = book[0]
    found = [((0, number),) for number in range(numbers)] if many else [()]
    for _ in range(many - 1):
        grown = []
        for begins in found:
            moment, number = begins[-1]
            nexts = {(moment + gap, (number + 1) % numbers) for gap in range(a, b + 1)}
            if pause is not None:
                nexts |= {(moment + pause, 0), (moment + pause + 1, 0)}
            grown.extend(begins + (each,) for each in sorted(nexts))
        found = grown
    return found


def all_arrivals(book, begins, most):
    """All tuples of at most so many arrivals behind these beginnings."""
    (_, _, n, copies, _, _), (d, late) = book[:2]
    possible = sorted((moment + d + behind, text, part) for text, (moment, _) in enumerate(begins)
                      for part in range(n) for behind in range(late + 1))
    level = [()]
    yield ()
    for _ in range(most):
        level = [arrivals + (each,) for arrivals in level for each in possible
                 if (not arrivals or arrivals[-1][0] <= each[0])
                 and sum(other[1:] == each[1:] for other in arrivals) < copies]
        yield from level


def all_runs(book, texts, most):
    """All runs of a book with so many texts and at most so many arrivals, the first text beginning at 0."""
    for begins in all_begins(book, texts):
        for arrivals in all_arrivals(book, begins, most):
            yield (begins, arrivals)
