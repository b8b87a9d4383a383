"""Points 25, 27 and 28: the desk's answers to rows; with them point 1 for its lists."""

import unittest

from cases import DEMAND_NAMES, MEMBER_NAMES, Dice, pick
from stairgauge.desk import answers
from stairgauge.errors import GaugeError
from stairgauge.house import House
from stairgauge.rows import read_row

REFUSALS = {
    "Unknown": "unknown", "InUse": "in use", "BadName": "bad name", "BadNumber": "bad number", "TooMuch": "too much",
    "Full": "full", "NothingBack": "nothing back", "NoWidths": "no widths", "BadRow": "bad row",
}
START = ["member door", "member stair", "plain a door 60 3 2", "link b stair door 14"]


def plain_answer(house, row):
    """Points 27 and 28 word by word, by what the house tells."""
    try:
        words = read_row(row)
        first, rest = words[0], words[1:]
        if first == "widths":
            told = [f"{member}={width}" for member, width in zip(house.members(), house.widths())]
            return " ".join(told or ["none"])
        if first == "chain":
            names = house.chain(*rest)
            width = dict(zip(house.members(), house.widths()))[rest[0]]
            return f"{width} by {' '.join(names)}" if width else "0"
        if first == "why":
            why = house.why()
            if why is None:
                return "fits"
            return " ".join(["ring"] + why[1] if why[0] == "ring" else ["wide", why[1], "by"] + why[2])
        if first == "slack":
            slack = house.slack(*rest)
            return "no end" if slack is None else f"{slack[0]} by {slack[1]}"
        if first == "cost":
            return f"{house.cost(*rest)}"
        deeds = {
            "member": house.add_member, "plain": house.add_plain, "link": house.add_link, "top": house.set_top,
            "back": house.take_back,
        }
        if first == "strike":
            rest = words[2:]
            getattr(house, "strike_" + words[1])(*rest)
        else:
            deeds[first](*rest)
        return "done"
    except GaugeError as refusal:
        return "refused: " + REFUSALS[type(refusal).__name__]


def plain_answers(rows):
    house = House()
    return [plain_answer(house, row) for row in rows]


class DeskTest(unittest.TestCase):
    def check(self, rows, told):
        with self.subTest(rows=rows):
            texts = answers(rows)
            self.assertEqual(texts, told)
            self.assertIs(type(texts), list)
            self.assertEqual([type(text) for text in texts], [str] * len(rows))

    def check_last(self, rows, told):
        """What the last of the rows is answered."""
        with self.subTest(rows=rows):
            self.assertEqual(answers(rows)[-1], told)


class AnswersTest(DeskTest):
    def test_no_rows(self):
        self.check([], [])

    def test_the_worked_rows(self):
        self.check(
            START + ["widths", "chain stair", "cost a", "top stair 110", "slack door"],
            ["done"] * 4 + ["door=90 stair=104", "104 by a b", "180", "done", "6 by stair"],
        )

    def test_each_deed_and_the_taking_back(self):
        rows = START + ["top stair 110", "strike top stair", "strike demand b", "strike member stair"] + ["back"] * 3
        self.check(rows + ["widths", "slack door"], ["done"] * 11 + ["door=90 stair=104", "6 by stair"])

    def test_widths(self):
        self.check(["widths"], ["none"])
        self.check_last(["member door", "widths"], "door=0")
        self.check_last(["member b", "member a", "plain a a 7 1 1", "widths"], "b=0 a=7")
        three = ["member a", "member b", "member c", "plain x b 99 1 1", "link y c b 1"]
        self.check_last(three + ["widths"], "a=0 b=99 c=100")
        self.check_last(["member a", "strike member a", "widths"], "none")
        self.check_last(["member a", "back", "widths"], "none")
        self.check_last(["member a", "plain a a 123 813 1", "widths"], "a=99999")

    def test_widths_of_twelve_members(self):
        names = ["m" + letter for letter in "abcdefghijkl"]
        rows = [f"member {name}" for name in names]
        rows += [f"link {on} {on} {base} 99" for on, base in zip(names[1:], names)] + ["widths"]
        self.check_last(rows, " ".join(f"{name}={99 * place}" for place, name in enumerate(names)))
        self.check_last(rows + ["chain ml"], "1089 by " + " ".join(names[1:]))
        self.check_last(rows + ["plain z ma 123 813 1", "chain ml"], "101088 by z " + " ".join(names[1:]))

    def test_chain(self):
        self.check_last(START + ["chain door"], "90 by a")
        self.check_last(START + ["chain stair"], "104 by a b")
        self.check_last(START + ["member hall", "chain hall"], "0")
        self.check_last(START + ["member hall", "plain c hall 0 1 1", "chain hall"], "0")
        self.check_last(START + ["plain c stair 104 1 1", "chain stair"], "104 by c")
        self.check_last(START[:2] + ["link b stair door 1", "chain stair"], "1 by b")

    def test_why(self):
        self.check(["why"], ["fits"])
        self.check_last(START + ["why"], "fits")
        self.check_last(START + ["top stair 104", "why"], "fits")
        self.check_last(START + ["top stair 103", "why"], "wide stair by a b")
        self.check_last(START + ["top stair 103", "top door 0", "why"], "wide door by a")
        self.check_last(START + ["link r door door 1", "why"], "ring r")
        self.check_last(START + ["link r door door 1", "top stair 0", "why"], "ring r")
        self.check_last(START + ["link r door door 0", "why"], "fits")
        # Which link of a ring comes first is not promised.
        self.assertIn(answers(START + ["link c door stair 0", "why"])[-1], ("ring b c", "ring c b"))
        three = ["member a", "member b", "member c", "link p b a 1", "link q c b 0", "link r a c 0", "why"]
        self.assertIn(answers(three)[-1], ("ring p q r", "ring q r p", "ring r p q"))

    def test_slack(self):
        self.check_last(START + ["slack door"], "no end")
        self.check_last(START + ["top door 95", "slack door"], "5 by door")
        self.check_last(START + ["top door 95", "slack stair"], "no end")
        self.check_last(START + ["top stair 104", "slack door"], "0 by stair")
        self.check_last(["member a", "top a 99999", "slack a"], "99999 by a")
        self.check_last(["member a", "top a 000", "slack a"], "0 by a")

    def test_cost(self):
        self.check_last(START + ["cost a"], "180")
        self.check_last(START + ["cost b"], "104")
        self.check_last(START + ["plain c door 1 1 1", "cost c"], "0")

    def test_numbers_with_noughts_in_front(self):
        rows = ["member door", "plain a door 060 03 002", "widths", "top door 00095", "slack door", "cost a"]
        self.check(rows, ["done", "done", "door=90", "done", "5 by door", "90"])

    def test_a_demand_that_bears_a_member_s_name(self):
        rows = ["member a", "plain a a 5 1 1", "widths", "chain a", "cost a", "strike demand a", "strike member a"]
        self.check(rows, ["done", "done", "a=5", "5 by a", "5", "done", "done"])


class RefusedTest(DeskTest):
    def test_each_word(self):
        for row, word in (
            ("strike member hall", "unknown"), ("strike demand c", "unknown"), ("strike top door", "unknown"),
            ("plain c hall 1 1 1", "unknown"), ("link c hall door 1", "unknown"), ("link c door hall 1", "unknown"),
            ("top hall 5", "unknown"), ("chain hall", "unknown"), ("slack hall", "unknown"), ("cost c", "unknown"),
            ("cost door", "unknown"), ("chain a", "unknown"), ("chain ", "unknown"), ("top  5", "unknown"),
            ("strike member ", "unknown"), ("strike top ", "unknown"), ("cost ", "unknown"), ("slack Door", "unknown"),
            ("member door", "in use"), ("plain a door 1 1 1", "in use"), ("link a door stair 1", "in use"),
            ("strike member door", "in use"), ("strike member stair", "in use"),
            ("member ", "bad name"), ("member Hall", "bad name"), ("member ninesigns", "bad name"),
            ("plain  door 1 1 1", "bad name"), ("plain 7 door 1 1 1", "bad name"), ("link B stair door 1", "bad name"),
            ("plain c door 1000 1 1", "bad number"), ("plain c door 1 0 1", "bad number"),
            ("plain c door 1 1 0", "bad number"), ("plain c door 1 1 1000", "bad number"),
            ("link c stair door 100", "bad number"), ("top door 100000", "bad number"),
            ("top door 999999", "bad number"),
            ("plain c door 999 999 1", "too much"), ("plain c door 125 800 1", "too much"),
            ("", "bad row"), ("Widths", "bad row"), ("top door -1", "bad row"), ("top door 1000000", "bad row"),
            ("chain", "bad row"), ("back ", "bad row"), ("link c stair door -1", "bad row"), ("hello", "bad row"),
        ):
            rows = START + [row, "widths", "back", "widths"]
            self.check(rows, ["done"] * 4 + [f"refused: {word}", "door=90 stair=104", "done", "door=90 stair=0"])

    def test_a_second_greatest_width(self):
        rows = START + ["top door 95", "top door 96", "slack door"]
        self.check(rows, ["done"] * 5 + ["refused: in use", "5 by door"])

    def test_nothing_back(self):
        self.check(["back"], ["refused: nothing back"])
        self.check(["back", "member a", "back", "back", "widths"], [
            "refused: nothing back", "done", "done", "refused: nothing back", "none",
        ])

    def test_no_widths(self):
        for row in ("link c door stair 0", "top stair 103"):
            rows = START + [row, "widths", "chain door", "slack door", "cost a", "chain hall", "slack hall", "cost c c"]
            told = ["done"] * 5 + ["refused: no widths"] * 4 + ["refused: unknown"] * 2 + ["refused: bad row"]
            self.check(rows + ["back", "widths"], told + ["done", "door=90 stair=104"])

    def test_full(self):
        members = [f"member m{letter}" for letter in "abcdefghijkl"]
        self.check(members + ["member more"], ["done"] * 12 + ["refused: full"])
        demands = [f"plain d{letter} ma 5 1 1" for letter in "abcdefghijklmnopqrstuvwx"]
        rows = members[:1] + demands + ["plain more ma 5 1 1", "link more ma ma 0", "widths", "strike demand dc"]
        told = ["done"] * 25 + ["refused: full"] * 2 + ["ma=5", "done", "done", "refused: full"]
        self.check(rows + ["link more ma ma 0", "plain x ma 6 1 1"], told)

    def test_the_deeds_can_be_full_too(self):
        # More rows than point 25 speaks of; they are answered all the same.
        rows = ["member a", "member b"] + ["top a 5", "strike top a"] * 74 + ["member c", "widths", "back", "member c"]
        self.check(rows + ["widths"], ["done"] * 150 + ["refused: full", "a=0 b=0", "done", "done", "a=0 b=0 c=0"])

    def test_a_refused_row_is_no_deed(self):
        rows = ["member a", "member A", "top b 5", "nothing", "chain x", "back", "widths", "back"]
        told = ["done", "refused: bad name", "refused: unknown", "refused: bad row", "refused: unknown", "done", "none"]
        self.check(rows, told + ["refused: nothing back"])

    def test_the_rows_of_texts_as_long_as_can_be(self):
        self.check(["x" * 60, " " * 60, "member " + "x" * 53, "~" * 60], [
            "refused: bad row", "refused: bad row", "refused: bad name", "refused: bad row",
        ])


def thrown_row(dice):
    member = pick(dice, MEMBER_NAMES[:4] + MEMBER_NAMES[:2] + ("", "Door"))
    base = pick(dice, MEMBER_NAMES[:4])
    demand = pick(dice, DEMAND_NAMES[:6])
    number = pick(dice, ("0", "1", "7", "14", "60", "099", "999", "1000", "99999", "100000", "1000000", "-1", ""))
    low = pick(dice, ("0", "0", "1", "5", "99", "100"))
    return pick(dice, (
        f"member {member}", f"member {base}", f"member {base}", f"plain {demand} {member} {number} 3 2",
        f"plain {demand} {base} 60 {low} 2", f"plain {demand} {base} 60 3 {low}",
        f"plain {demand} {base} 999 999 {low}", f"link {demand} {member} {base} {low}",
        f"link {demand} {member} {base} 0", f"top {base} {number}", f"top {member} 99999", f"strike member {member}",
        f"strike demand {demand}", f"strike top {base}", "back", "widths", "widths", f"chain {base}", f"chain {member}",
        "why", "why", f"slack {base}", f"slack {member}", f"cost {demand}", f"cost {demand}", f"back {demand}",
    ))


class DaysTest(DeskTest):
    def test_days_of_120_rows(self):
        seen = set()
        for seed in range(200, 280):
            dice = Dice(seed)
            rows = [f"member {member}" for member in MEMBER_NAMES[:seed % 4]]
            rows += [thrown_row(dice) for turn in range(120 - len(rows))]
            told = plain_answers(rows)
            self.assertEqual(len(rows), 120)
            self.check(rows, told)
            seen.update(text if text.startswith("refused") else text.split()[0] for text in told)
        for word in REFUSALS.values():
            if word != "full":
                self.assertIn("refused: " + word, seen)
        for word in ("done", "none", "fits", "ring", "wide", "no", "0"):
            self.assertIn(word, seen)

    def test_each_row_is_answered_in_its_turn(self):
        rows = START + ["widths", "top stair 110", "slack door", "hello", "back", "slack door"]
        told = answers(rows)
        for length in range(len(rows) + 1):
            self.check(rows[:length], told[:length])


class SharedTest(DeskTest):
    """Point 1."""

    def test_the_rows_stay_as_they_are(self):
        for rows in ([], START + ["widths", "hello", "back"], ["back"] * 120):
            kept = list(rows)
            answers(rows)
            self.assertEqual(rows, kept)

    def test_two_calls_share_nothing(self):
        first = answers(START + ["widths"])
        self.check(["widths"], ["none"])
        self.check(["back"], ["refused: nothing back"])
        self.assertEqual(answers(START + ["widths"]), first)

    def test_a_told_list_that_is_changed_changes_no_later_answer(self):
        rows = START + ["widths"]
        first = answers(rows)
        kept = list(first)
        first.clear()
        second = answers(rows)
        self.assertEqual(second, kept)
        second.append("more")
        self.assertEqual(answers(rows), kept)


if __name__ == "__main__":
    unittest.main()
