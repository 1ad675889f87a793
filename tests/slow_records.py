"""What can be told of records, reckoned slowly by the document's words alone."""

from tests.slow_glass import slow_first, slow_moved


def owner(event):
    return event[2] if event[0] == "take" else event[1]


def wrong_of(glass, event):
    """The word for what is wrong with an event at a glass, None if nothing is."""
    stages = [state[0] for state in glass[0]]
    if event[0] == "wake" and stages[event[1]] != "asleep":
        return "awake"
    if event[0] == "over" and stages[event[1]] != "over":
        return "early"
    if event[0] == "take":
        words = [way[2] for way in glass[1] if way[:2] == event[1:3]]
        if not words:
            return "empty"
        if words[0][0] != event[3]:
            return "other"
    return None


class SlowRecord:
    """All that is told of a record: its glasses, its events that can be done, what causes what."""

    def __init__(self, web, events):
        self.web, self.wrong, self.done = web, None, []
        self.glasses = [slow_first(web)]
        # For each event that can be done the indexes that cause it directly.
        self.direct = []
        sent = {}
        for at, event in enumerate(events):
            glass = self.glasses[-1]
            word = wrong_of(glass, event)
            if word and self.wrong is None:
                self.wrong = (at, word)
            if word in ("awake", "empty", "other"):
                break
            self.direct.append(self.causing(event, sent))
            self.done.append(event)
            self.glasses.append(glass if event[0] == "over" else slow_moved(web, glass, event[:3]))
            self.note_sent(at, event, sent)

    def causing(self, event, sent):
        ahead = [at for at, other in enumerate(self.done) if owner(other) == owner(event)][-1:]
        if event[0] == "take":
            ahead.append(sent[event[1:3]].pop(0))
        return tuple(sorted(set(ahead)))

    def note_sent(self, at, event, sent):
        """By what is on its way ahead and behind it is told what was sent in an event."""
        many = {way[:2]: len(way[2]) for way in self.glasses[-2][1]}
        if event[0] == "take":
            many[event[1:3]] -= 1
        for one, other, words in self.glasses[-1][1]:
            sent.setdefault((one, other), []).extend([at] * (len(words) - many.get((one, other), 0)))

    def pasts(self):
        """For each event the set of it and of all that cause it, perhaps through others."""
        found = []
        for at, direct in enumerate(self.direct):
            found.append({at}.union(*(found[each] for each in direct)))
        return found

    def vectors(self):
        houses = range(self.web.many)
        return tuple(
            tuple(sum(owner(self.done[at]) == house for at in past) for house in houses)
            for past in self.pasts())

    def longest(self):
        pasts = self.pasts()
        best = []
        for at, past in enumerate(pasts):
            best.append(1 + max((best[each] for each in past if each != at), default=0))
        return max(best, default=0)

    def seen(self, house):
        return tuple(event for event in self.done if owner(event) == house)

    def by_least(self):
        pasts, order = self.pasts(), []
        while len(order) < len(self.done):
            heads = []
            for house in range(self.web.many):
                left = [at for at, event in enumerate(self.done) if owner(event) == house and at not in order]
                if left and pasts[left[0]] - {left[0]} <= set(order):
                    heads.append(left[0])
            order.append(heads[0])
        return tuple(self.done[at] for at in order)
