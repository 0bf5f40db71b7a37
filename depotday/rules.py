"""Rules: simple keepers that pick vehicles by their place in the queue or by their units."""

from depotday.answering import can_run, charge_count, chargeable, is_patient
from depotday.errors import BadRule
from depotday.standings import queue_after


def picked(word, queue, places):
    """The one of these ascending places of a queue that a word picks."""
    if word == "first":
        return places[0]
    if word == "last":
        return places[-1]
    units = [queue[at][0] for at in places]
    # The first one with these units stands first.
    return places[units.index(max(units) if word == "fullest" else min(units))]


class Rule:
    """A word by which vehicles are sent, and one by which they are charged."""

    WORDS = ("first", "last", "fullest", "emptiest")

    def __init__(self, send_word, charge_word):
        if send_word not in Rule.WORDS:
            raise BadRule("send")
        if charge_word not in Rule.WORDS:
            raise BadRule("charge")
        self.send_word = send_word
        self.charge_word = charge_word

    @staticmethod
    def every():
        """All rules, ordered by their words."""
        return [Rule(send_word, charge_word) for send_word in Rule.WORDS for charge_word in Rule.WORDS]

    @classmethod
    def parse(cls, text):
        """The rule with this written form."""
        for rule in cls.every():
            if str(rule) == text:
                return rule
        raise BadRule("text")

    def __eq__(self, other):
        return (isinstance(other, Rule) and self.send_word == other.send_word
                and self.charge_word == other.charge_word)

    def __str__(self):
        return f"send {self.send_word}, charge {self.charge_word}"

    def _sent(self, day, queue, lines):
        """The vehicles that the rule sends on the lines, None if it cannot."""
        sent = []
        for line in lines:
            able = [at for at, vehicle in enumerate(queue) if at not in sent and can_run(day, vehicle, line)]
            if not able:
                return None
            sent.append(picked(self.send_word, queue, able))
        return tuple(sent) if is_patient(day, queue, lines, sent) else None

    def _charged(self, day, queue, sent):
        """The vehicles that the rule charges."""
        charged = []
        for _ in range(charge_count(day, queue, sent)):
            able = [at for at in chargeable(day, queue, sent) if at not in charged]
            charged.append(picked(self.charge_word, queue, able))
        return tuple(sorted(charged))

    def __call__(self, day, standing, news):
        """The answer of the rule to news, None if it has none."""
        queue = queue_after(day, standing, news)
        sent = self._sent(day, queue, day.leaving(news[0], standing[1]))
        return None if sent is None else (sent, self._charged(day, queue, sent))
