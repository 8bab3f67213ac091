"""What one office keeps, and what each call does to it.

Each call answers a list of whole numbers; a refusal is its number alone.
A call looks for all its refusals before it changes anything.
"""

NOT_AS_TOLD = -1
MISSING = -2
NOT_IN_PACKAGE = -3
FULL = -5
NOT_IN_RELEASE = -6

LAST_KEY = 99
LAST_TEXT = 999
LAST_TRANSLATION = 999
LAST_TONGUE = 3

MOST_KEYS = 10
MOST_WORK = 60
MOST_PACKAGES = 10
MOST_IN_PACKAGE = 6
MOST_RELEASES = 12

ALREADY_THERE = 0
AS_SENT = 1
TAKEN = 2
LEFT_TO_CHOOSE = 3


class Package:
    # texts stay as they were sent; bases change with what comes back.
    def __init__(self, tongue, texts, bases):
        self.tongue = tongue
        self.texts = texts
        self.bases = bases


class Records:
    # A place is (tongue, key, text). Work and what is open are kept by place,
    # not by key, so that nothing is lost while a key has another text.
    def __init__(self):
        self.source = {}
        self.work = {}
        self.packages = []
        self.unsettled = {}
        self.releases = []

    def how_it_stands(self):
        return [
            len(self.source),
            len(self.work),
            len(self.packages),
            len(self.unsettled),
            len(self.releases),
        ]

    def work_at(self, place):
        return self.work.get(place, 0)

    # Popped first, so that work stands in the order in which it came last, also
    # where the same number is told once more.
    def put_work(self, place, translation):
        self.work.pop(place, None)
        if translation > 0:
            self.work[place] = translation

    # How many more works there would be if this were the work at that place.
    def growth_at(self, place, translation):
        before = 1 if place in self.work else 0
        after = 1 if translation > 0 else 0
        return after - before

    def too_much_work(self, growth):
        return len(self.work) + growth > MOST_WORK

    def set_text(self, key, text):
        if key > LAST_KEY or text < 1 or text > LAST_TEXT:
            return [NOT_AS_TOLD]
        if key not in self.source and len(self.source) >= MOST_KEYS:
            return [FULL]
        self.source[key] = text
        return self.how_it_stands()

    def drop_key(self, key):
        if key not in self.source:
            return [MISSING]
        self.source.pop(key)
        return self.how_it_stands()

    def set_translation(self, tongue, key, translation):
        if tongue > LAST_TONGUE or translation > LAST_TRANSLATION:
            return [NOT_AS_TOLD]
        if key not in self.source:
            return [MISSING]
        place = (tongue, key, self.source[key])
        if self.too_much_work(self.growth_at(place, translation)):
            return [FULL]
        self.put_work(place, translation)
        return self.how_it_stands()

    def send_package(self, tongue, sent):
        if tongue > LAST_TONGUE or not fits_a_package(sent):
            return [NOT_AS_TOLD]
        for key in sent:
            if key not in self.source:
                return [MISSING]
        if len(self.packages) >= MOST_PACKAGES:
            return [FULL]
        texts = {}
        bases = {}
        for key in sent:
            texts[key] = self.source[key]
            bases[key] = self.work_at((tongue, key, texts[key]))
        self.packages.append(Package(tongue, texts, bases))
        return [len(self.packages) - 1]

    def take_back(self, number, pairs):
        refusal = self.refusal_of_back(number, pairs)
        if refusal < 0:
            return [refusal]
        package = self.packages[number]
        outcomes = []
        for key, theirs in pairs:
            outcomes.append(self.settle(package, key, theirs))
        return [outcomes.count(TAKEN)] + outcomes

    # 0 if nothing is refused.
    def refusal_of_back(self, number, pairs):
        if not fits_a_package([key for key, theirs in pairs]):
            return NOT_AS_TOLD
        if any([theirs > LAST_TRANSLATION for key, theirs in pairs]):
            return NOT_AS_TOLD
        if number >= len(self.packages):
            return MISSING
        package = self.packages[number]
        if any([key not in package.texts for key, theirs in pairs]):
            return NOT_IN_PACKAGE
        if self.too_much_work(self.growth_by_back(package, pairs)):
            return FULL
        return 0

    # No key is there twice, so no pair touches another's place, and all
    # outcomes can be told from what there is ahead of the first.
    def growth_by_back(self, package, pairs):
        growth = 0
        for key, theirs in pairs:
            if self.outcome_of(package, key, theirs) == TAKEN:
                growth += self.growth_at(sent_place(package, key), theirs)
        return growth

    def outcome_of(self, package, key, theirs):
        if theirs == package.bases[key]:
            return AS_SENT
        ours = self.work_at(sent_place(package, key))
        if ours == theirs:
            return ALREADY_THERE
        if ours == package.bases[key]:
            return TAKEN
        return LEFT_TO_CHOOSE

    def settle(self, package, key, theirs):
        outcome = self.outcome_of(package, key, theirs)
        place = sent_place(package, key)
        if outcome != AS_SENT:
            self.unsettled.pop(place, None)
        if outcome == TAKEN:
            self.put_work(place, theirs)
        if outcome == LEFT_TO_CHOOSE:
            # Popped above, so that it stands last even where it replaces one.
            self.unsettled[place] = theirs
        package.bases[key] = theirs
        return outcome

    def choose_one(self, place, is_theirs):
        if place not in self.unsettled:
            return [MISSING]
        if is_theirs == 1:
            theirs = self.unsettled[place]
            if self.too_much_work(self.growth_at(place, theirs)):
                return [FULL]
            self.put_work(place, theirs)
        self.unsettled.pop(place)
        return self.how_it_stands()

    def add_release(self, tongue):
        if tongue > LAST_TONGUE:
            return [NOT_AS_TOLD]
        if len(self.releases) >= MOST_RELEASES:
            return [FULL]
        shown = self.shown_now(tongue)
        self.releases.append(shown)
        translated = sum([row[1] for row in shown.values()])
        return [len(self.releases) - 1, len(shown), translated]

    # Of each key, rising: what is shown, and 1 if that is a translation, else
    # 0. A new dict of plain numbers, so that a release stays as it was.
    def shown_now(self, tongue):
        shown = {}
        for key in sorted(self.source):
            text = self.source[key]
            translation = self.work_at((tongue, key, text))
            if translation > 0:
                shown[key] = (translation, 1)
            else:
                shown[key] = (text, 0)
        return shown

    def look_up(self, number, key):
        if number >= len(self.releases):
            return [MISSING]
        shown = self.releases[number]
        if key not in shown:
            return [NOT_IN_RELEASE]
        return list(shown[key])

    def list_now(self, tongue):
        if tongue > LAST_TONGUE:
            return [NOT_AS_TOLD]
        shown = self.shown_now(tongue)
        answer = [len(shown)]
        for key, row in shown.items():
            answer.extend([key, row[0], row[1]])
        return answer

    def list_todo(self, tongue):
        if tongue > LAST_TONGUE:
            return [NOT_AS_TOLD]
        shown = self.shown_now(tongue)
        untranslated = [key for key in shown if shown[key][1] == 0]
        answer = [len(untranslated)]
        for key in untranslated:
            answer.extend([key, self.source[key], self.offered_for(tongue, key)])
        return answer

    def make_offer(self, tongue, key):
        if tongue > LAST_TONGUE:
            return [NOT_AS_TOLD]
        if key not in self.source:
            return [MISSING]
        text = self.source[key]
        return [text, self.work_at((tongue, key, text)), self.offered_for(tongue, key)]

    # Work under a key that the source hasn't any more is offered too, so all of
    # the work is looked through, not the source.
    def offered_for(self, tongue, key):
        text = self.source[key]
        same_text = [place[1] for place in self.work if place[0] == tongue and place[2] == text]
        if len(same_text) > 0:
            return self.work_at((tongue, min(same_text), text))
        came_last = 0
        for place, translation in self.work.items():
            if place[0] == tongue and place[1] == key:
                came_last = translation
        return came_last

    def list_unsettled(self, tongue):
        if tongue > LAST_TONGUE:
            return [NOT_AS_TOLD]
        places = [place for place in self.unsettled if place[0] == tongue]
        answer = [len(places)]
        for place in places:
            answer.extend([place[1], place[2], self.unsettled[place], self.work_at(place)])
        return answer

    def list_changed(self, number, another):
        if number >= len(self.releases) or another >= len(self.releases):
            return [MISSING]
        first = self.releases[number]
        second = self.releases[another]
        changed = [key for key in first if key not in second or first[key] != second[key]]
        changed.extend([key for key in second if key not in first])
        return [len(changed)] + changed


def fits_a_package(chosen):
    if len(chosen) < 1 or len(chosen) > MOST_IN_PACKAGE:
        return False
    return len(set(chosen)) == len(chosen)


def sent_place(package, key):
    return (package.tongue, key, package.texts[key])
