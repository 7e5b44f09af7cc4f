"""Points [69] to [72], and promise [20]: texts and digests of rows, proofs, clashes."""

import functools
import random
import unittest

from checks import Checks
from house_makers import Caller
from house_checks import outcome
from samples import LETTER, as_lists, is_plain, mixed
from test_rebuild import ROWS

from wholeflow.audit import clash, digest, proof, proof_holds, text_of, top
from wholeflow.houses import House

NO_STRINGS = (None, True, False, 0, 1, 10 ** 30, (), [], ("a",), ["a", "b"])
NO_ROWS = (True, False, "'", "it's", (True,), [False], (1, (2, [True])), ("a", "b'"), ((), ("'",)), [None, ["''"]])
NO_MANY = (None, True, False, "", "1", (), [], (0,), -1, 10 ** 30, -10 ** 30)


def deep(value, many):
    for _ in range(many):
        value = [value]
    return value


@functools.lru_cache(maxsize=None)
def slow_digest(text):
    """[70] once more: the sum of the codes times the powers, in one number."""
    return (7 * pow(263, len(text), 65521)
            + sum(ord(sign) * pow(263, len(text) - 1 - at, 65521) for at, sign in enumerate(text))) % 65521


def slow_top(digests):
    if len(digests) == 1:
        return digests[0]
    pairs = [digests[at:at + 2] for at in range(0, len(digests), 2)]
    return slow_top([slow_digest("{} {}".format(*pair)) if len(pair) == 2 else pair[0] for pair in pairs])


def slow_proof(digests, at):
    if len(digests) == 1:
        return ()
    pairs = [digests[k:k + 2] for k in range(0, len(digests), 2)]
    pair = pairs[at // 2]
    partner = -1 if len(pair) == 1 else pair[1 - at % 2]
    above = [slow_digest("{} {}".format(*pair)) if len(pair) == 2 else pair[0] for pair in pairs]
    return (partner,) + slow_proof(above, at // 2)


class TextOfTest(Checks):

    def test_texts(self):
        for row, text in ((0, "0"), (7, "7"), (-3, "-3"), (10 ** 30, "1" + "0" * 30), (-10 ** 30, "-1" + "0" * 30),
                          (None, "."), ("", "''"), ("root", "'root'"), ("a b,(.)\n", "'a b,(.)\n'"), ((), "()"),
                          ((1,), "(1)"), ((1, "a", None), "(1,'a',.)"), (((),), "(())"), (((), ()), "((),())"),
                          ((0, "claim", "ann", "pens"), "(0,'claim','ann','pens')"), ((1, (2, (3, -4)), "x"), "(1,(2,(3,-4)),'x')")):
            self.assertEqual(text_of(row), text)
            self.assertEqual(text_of(as_lists(row)), text)
            self.assertEqual(text_of(mixed(row)), text)
        self.assertEqual(text_of(row=[1, [None]]), "(1,(.))")

    def test_rows_of_logs(self):
        self.assertEqual(text_of(ROWS[0]), "(0,'publish','root','letter',(3,(('write',('task','pens',2,10,'bin'),(0),(2)),"
                         "('check',('choice'),(2),(1)),('again',('choice'),(2),(0)))))")
        texts = [text_of(row) for row in ROWS]
        self.assertEqual(len(set(texts)), len(set(ROWS)))

    def test_large_rows(self):
        self.assertEqual(text_of(deep(5, 19)), "(" * 19 + "5" + ")" * 19)
        self.assertEqual(text_of([3] * 19000), "(" + ",".join("3" * 19000) + ")")
        self.assertEqual(text_of("a" * 20000), "'" + "a" * 20000 + "'")

    def test_no_rows(self):
        for value in NO_ROWS + (deep(True, 19), deep("'", 19), [0] * 9000 + [False]):
            self.refused(0, text_of, value)

    def test_arguments_stay(self):
        self.unchanged(text_of, (1, (2, ("a", None)), ()))


class DigestTest(Checks):

    def test_examples(self):
        self.assertEqual(digest(""), 7)
        self.assertEqual(digest("a"), (7 * 263 + 97) % 65521)
        self.assertEqual(digest("ab"), (((7 * 263 + 97) % 65521) * 263 + 98) % 65521)
        self.assertEqual(digest(text="\n"), 7 * 263 + 10)

    def test_strings(self):
        chance = random.Random(1)
        signs = [chr(code) for code in range(32, 127)] + ["\n"]
        for many in list(range(60)) + [1000, 20000]:
            text = "".join(chance.choice(signs) for _ in range(many))
            self.assertEqual(digest(text), slow_digest(text))
            self.assertIs(type(digest(text)), int)
            self.assertTrue(0 <= digest(text) <= 65520)

    def test_no_strings(self):
        for value in NO_STRINGS:
            self.refused(0, digest, value)


class TopTest(Checks):

    def test_one_two_and_three_rows(self):
        a, b, c = [digest(text_of(row)) for row in ROWS[:3]]
        self.assertEqual(top(ROWS[:1]), a)
        self.assertEqual(top(ROWS[:2]), digest("{} {}".format(a, b)))
        self.assertEqual(top(ROWS[:3]), digest("{} {}".format(digest("{} {}".format(a, b)), c)))
        self.assertEqual(top(rows=[5]), digest("5"))

    def test_logs_of_all_lengths(self):
        rows = ROWS * 4
        for many in range(1, 71):
            digests = [slow_digest(text_of(row)) for row in rows[:many]]
            self.assertEqual(top(rows[:many]), slow_top(digests))
            self.assertEqual(top(as_lists(rows[:many])), slow_top(digests))

    def test_rows_of_any_kinds(self):
        for rows in ((None,), ("a", 5), ((), [], ((),)), (-1, None, "x", (1, [2])), [[1], [2], [3]]):
            self.assertEqual(top(rows), slow_top([slow_digest(text_of(row)) for row in rows]))

    def test_many_rows(self):
        rows = [(at, "clock", at + 1) for at in range(5000)]
        self.assertEqual(top(rows), slow_top([digest(text_of(row)) for row in rows]))

    def test_no_rows(self):
        for value in NO_STRINGS[:6] + ("abc", "", (), []) + tuple([(row,) for row in NO_ROWS]) + tuple(
                [ROWS + (row,) for row in NO_ROWS]):
            self.refused(0, top, value)


class ProofTest(Checks):

    def test_of_one_two_and_three_rows(self):
        a, b, c = [digest(text_of(row)) for row in ROWS[:3]]
        self.assertEqual(proof(ROWS[:1], 0), ())
        self.assertEqual((proof(ROWS[:2], 0), proof(ROWS[:2], 1)), ((b,), (a,)))
        self.assertEqual(proof(ROWS[:3], 0), (b, c))
        self.assertEqual(proof(ROWS[:3], 1), (a, c))
        self.assertEqual(proof(at=2, rows=ROWS[:3]), (-1, digest("{} {}".format(a, b))))

    def test_every_row_of_logs_of_all_lengths(self):
        rows = ROWS * 3
        for many in range(1, 45):
            digests = [slow_digest(text_of(row)) for row in rows[:many]]
            told = top(rows[:many])
            for at in range(many):
                value = proof(rows[:many], at)
                self.assertEqual(value, slow_proof(digests, at))
                self.assertTrue(is_plain(value))
                self.assertIs(proof_holds(told, many, at, rows[at], value), True)
                self.assertIs(proof_holds(told, many, at, as_lists(rows[at]), list(value)), True)

    def test_of_the_logs_of_houses(self):
        for number in range(6):
            caller, house = Caller(number), House()
            calls = caller.first_calls()
            for at in range(60):
                outcome(house, *(calls[at] if at < len(calls) else caller.call(house)))
            rows = house.log()
            for at, row in enumerate(rows):
                self.assertIs(proof_holds(top(rows), len(rows), at, row, proof(rows, at)), True)

    def test_lists_and_arguments(self):
        self.assertEqual(self.unchanged(proof, ROWS, 3), proof(mixed(ROWS), 3))

    def test_wrong_arguments_in_their_order(self):
        for value in NO_STRINGS[:6] + ("abc", (), [], ROWS + (True,), ("'",)):
            for at in (0, None, -1):
                self.refused(0, proof, value, at)
        for at in NO_MANY + (len(ROWS),):
            self.refused(1, proof, ROWS, at)
        for at in (1, True):
            self.refused(1, proof, (5,), at)


class ProofHoldsTest(Checks):

    def test_any_change_of_a_value(self):
        for many in (1, 2, 3, 5, 8, 11, 21):
            told = top(ROWS[:many])
            for at in range(many):
                value = proof(ROWS[:many], at)
                row = ROWS[at]
                for place in range(len(value)):
                    for other in (value[place] + 1, value[place] - 1, -1, 65521, None, True, False, "1", (), (value[place],)):
                        changed = value[:place] + (other,) + value[place + 1:]
                        if changed != value or type(other) is bool:
                            self.assertIs(proof_holds(told, many, at, row, changed), False, (many, at, changed))
                for changed in (value + (-1,), value + (0,), value[:-1] if value else (0,), (0,) + value, (-1,) + value,
                                value + value if value else (1,), value[1:] if value else (-1,)):
                    self.assertIs(proof_holds(told, many, at, row, changed), False)

    def test_no_sequences(self):
        for value in (None, True, False, 0, 7, "", "abc"):
            for many, at in ((1, 0), (2, 1), (5, 4)):
                self.assertIs(proof_holds(top(ROWS[:many]), many, at, ROWS[at], value), False)

    def test_true_and_false_in_a_value(self):
        # A row whose partner has the digest 0 or 1: found by trying.
        found = {}
        at = 0
        while len(found) < 2:
            number = digest(text_of(at))
            if number in (0, 1):
                found[number] = at
            at += 1
        for number, row in found.items():
            rows = (row, "a")
            self.assertIs(proof_holds(top(rows), 2, 1, "a", (number,)), True)
            self.assertIs(proof_holds(top(rows), 2, 1, "a", (bool(number),)), False)

    def test_another_row_place_number_or_top(self):
        many = 7
        told = top(ROWS[:many])
        for at in range(many):
            value = proof(ROWS[:many], at)
            for other in range(many):
                if other != at:
                    self.assertIs(proof_holds(told, many, at, ROWS[other], value), False)
                    self.assertIs(proof_holds(told, many, other, ROWS[at], value), False)
            self.assertIs(proof_holds((told + 1) % 65521, many, at, ROWS[at], value), False)
            self.assertIs(proof_holds(told, 9, at, ROWS[at], value), False)

    def test_no_partner_just_where_there_is_none(self):
        value = proof(ROWS[:5], 4)
        self.assertEqual(value[:2], (-1, -1))
        self.assertIs(proof_holds(top(ROWS[:5]), 5, 4, ROWS[4], value), True)
        self.assertIs(proof_holds(top(ROWS[:5]), 5, 4, ROWS[4], value[2:]), False)
        self.assertIs(proof_holds(top(ROWS[:5]), 8, 4, ROWS[4], value), False)
        # With partners left out, the way of fewer rows would come to the same top.
        self.assertIs(proof_holds(digest("5"), 2, 0, 5, (-1,)), False)
        self.assertIs(proof_holds(digest("5"), 1, 0, 5, ()), True)
        self.assertIs(proof_holds(digest("5"), 1, 0, 5, (-1,)), False)

    def test_a_number_of_rows_up_to_a_million(self):
        value = [5] * 20
        told = digest(text_of("x"))
        for partner in value:
            told = digest("{} {}".format(told, partner))
        self.assertIs(proof_holds(told, 10 ** 6, 0, "x", value), True)
        self.assertIs(proof_holds(told, 2 ** 19, 0, "x", value), False)
        self.assertIs(proof_holds(told, 2 ** 19 + 1, 0, "x", value), True)

    def test_arguments_by_name(self):
        self.assertIs(proof_holds(value=[], row=5, at=0, many=1, top=digest("5")), True)
        self.unchanged(proof_holds, top(ROWS), len(ROWS), 2, ROWS[2], proof(ROWS, 2))

    def test_wrong_arguments_in_their_order(self):
        for value in NO_MANY + (65521,):
            self.refused(0, proof_holds, value, value, value, True, None)
            self.refused(0, proof_holds, value, 1, 0, 5, ())
        for value in NO_MANY + (0, 10 ** 6 + 1):
            self.refused(1, proof_holds, 0, value, value, True, None)
            self.refused(1, proof_holds, 65520, value, 0, 5, ())
        for many in (1, 2, 10 ** 6):
            for value in NO_MANY + (many, many + 1):
                self.refused(2, proof_holds, 0, many, value, True, None)
        for value in NO_ROWS:
            self.refused(3, proof_holds, 0, 1, 0, value, None)
            self.refused(3, proof_holds, 0, 10 ** 6, 10 ** 6 - 1, value, ())


def plain_digest(text):
    """The digest as it would be if it were 0 at first."""
    return (slow_digest(text) - 7 * pow(263, len(text), 65521)) % 65521


class Partners:
    """Finds partners with which a digest is paired to another one, without trying all of them."""

    def __init__(self):
        self.behind = {}
        self.ahead = {}
        for number in range(65521):
            self.behind.setdefault((len(str(number)), plain_digest(str(number))), []).append(number)
            self.ahead.setdefault(slow_digest(str(number)), []).append(number)

    def find(self, below, at, told):
        """The partners of what stands below at this place with which the pairing's digest is told."""
        if at % 2 == 1:
            text = " {}".format(below)
            right = (told - plain_digest(text)) * pow(263 ** len(text), -1, 65521) % 65521
            return self.ahead.get(right, [])
        text = "{} ".format(below)
        return [number for many in range(1, 6) for number in self.behind.get(
            (many, (told - slow_digest(text) * 263 ** many) % 65521), [])]


PARTNERS = Partners()


class Twins:
    """Rows by the digests of their texts, found by trying."""

    def __init__(self):
        chance = random.Random(1)
        self.rows = {}
        for _ in range(250000):
            row = (chance.randrange(10 ** 9), "clock", chance.randrange(10 ** 9))
            self.rows.setdefault(digest(text_of(row)), []).append(row)

    def find(self, chance, text_before):
        """A row whose text is another one of the same digest."""
        return chance.choice([row for row in self.rows[digest(text_before)] if text_of(row) != text_before])


TWINS = Twins()


def twins(chance, text_before):
    return TWINS.find(chance, text_before)


class ClashTest(Checks):

    def is_clash(self, told, rows, at, row, value):
        self.assertIs(type(told), tuple)
        one, other = told
        self.assertLess(one, other)
        self.assertEqual(digest(one), digest(other))
        right, wrong = self.texts(rows, at, None, None), self.texts(rows, at, row, value)
        self.assertTrue(any({one, other} == {a, b} for a, b in zip(right, wrong)), (told, right, wrong))

    def texts(self, rows, at, row, value):
        """The texts that are made on the way up: of the rows themselves, or of another row and value."""
        digests = [slow_digest(text_of(part)) for part in rows]
        value = slow_proof(digests, at) if value is None else value
        told = [text_of(rows[at] if row is None else row)]
        below = slow_digest(told[0])
        for partner in value:
            if partner != -1:
                told.append("{} {}".format(*((partner, below) if at % 2 else (below, partner))))
                below = slow_digest(told[-1])
            at //= 2
        return told

    def test_rows_of_the_same_digest(self):
        chance = random.Random(1)
        for many in (1, 2, 3, 7, 12):
            rows = ROWS[:many]
            for at in {0, many // 2, many - 1}:
                row = twins(chance, text_of(rows[at]))
                value = proof(rows, at)
                self.assertIs(proof_holds(top(rows), many, at, row, value), True)
                told = clash(rows, at, row, value)
                self.is_clash(told, rows, at, row, value)
                self.assertEqual(told, tuple(sorted([text_of(rows[at]), text_of(row)])))

    def test_a_pairing_of_the_same_digest(self):
        chance = random.Random(2)
        levels = {}
        for many, at in ((2, 0), (2, 1), (3, 0), (3, 2), (5, 4), (6, 5), (8, 3), (21, 13), (21, 20)) * 12:
            rows = ROWS[:many]
            row, value = self.other_way(chance, rows, at)
            self.assertIs(proof_holds(top(rows), many, at, row, value), True)
            told = clash(rows, at, row, value)
            self.is_clash(told, rows, at, row, value)
            self.assertEqual(clash(list(rows), at, as_lists(row), list(value)), told)
            level = [text in told for text in self.texts(rows, at, row, value)].index(True)
            levels[level] = levels.get(level, 0) + 1
        for level in (1, 2, 3, 4, 5):
            self.assertGreater(levels.get(level, 0), 0, levels)

    def other_way(self, chance, rows, at):
        """Another row with a value that holds for it: some partners are others, and so is the last of these."""
        digests = [[slow_digest(text) for text in self.texts(rows, at, None, None)]]
        right = proof(rows, at)
        while True:
            row = (chance.randrange(10 ** 6), "clock", chance.randrange(10 ** 6))
            last = chance.choice([place for place in range(len(right)) if right[place] != -1])
            value = [part if part == -1 or chance.randrange(2) else chance.randrange(65521) for part in right[:last]]
            below = slow_digest(self.texts(rows, at, row, value)[-1])
            through = sum(part != -1 for part in right[:last + 1])
            found = PARTNERS.find(below, at >> last, digests[0][through])
            if found:
                return row, tuple(value) + (chance.choice(found),) + right[last + 1:]

    def test_the_same_digest_below_and_other_partners_above(self):
        # The texts of the rows clash already; that further up others do changes nothing.
        chance = random.Random(3)
        found = 0
        while found < 5:
            rows = ROWS[:8]
            at = chance.randrange(8)
            row = twins(chance, text_of(rows[at]))
            right = proof(rows, at)
            below = slow_digest(self.texts(rows, at, None, None)[-2])
            for other in PARTNERS.find(below, at >> 2, top(rows)):
                if other != right[2]:
                    value = right[:2] + (other,)
                    self.assertIs(proof_holds(top(rows), 8, at, row, value), True)
                    self.is_clash(clash(rows, at, row, value), rows, at, row, value)
                    found += 1

    def test_a_clash_lower_down_and_another_digest_further_up(self):
        # Behind a first clash the ways part again, and come together for a second time.
        chance = random.Random(4)
        rows = ROWS[:8]
        found = 0
        while found < 5:
            at = chance.randrange(8)
            row = twins(chance, text_of(rows[at]))
            value = (chance.randrange(65521), chance.randrange(65521))
            below = slow_digest(self.texts(rows, at, row, value)[-1])
            for other in PARTNERS.find(below, at >> 2, top(rows)):
                told = clash(rows, at, row, value + (other,))
                self.is_clash(told, rows, at, row, value + (other,))
                found += 1

    def test_arguments_by_name(self):
        row = twins(random.Random(4), "5")
        self.assertEqual(clash(value=(), row=row, at=0, rows=[5]), tuple(sorted(["5", text_of(row)])))
        self.unchanged(clash, (5,), 0, row, ())

    def test_wrong_arguments_in_their_order(self):
        row = twins(random.Random(5), text_of(ROWS[2]))
        value = proof(ROWS, 2)
        clash(ROWS, 2, row, value)
        for rows in NO_STRINGS[:6] + ("abc", (), [], ROWS + (False,), ("'",)):
            self.refused(0, clash, rows, None, True, None)
            self.refused(0, clash, rows, 0, row, value)
        for at in NO_MANY + (len(ROWS), len(ROWS) + 1):
            self.refused(1, clash, ROWS, at, True, None)
            self.refused(1, clash, ROWS, at, row, value)
        for other in NO_ROWS + (ROWS[2], list(ROWS[2])):
            self.refused(2, clash, ROWS, 2, other, None)
            self.refused(2, clash, ROWS, 2, other, value)
        for other in (None, True, 0, "", (), [], value[:-1], value + (-1,), (value[0] + 1,) + value[1:], value[::-1]):
            self.refused(3, clash, ROWS, 2, row, other)
        self.refused(3, clash, ROWS, 3, row, value)
        self.refused(3, clash, ROWS, 2, ROWS[3], value)
        self.refused(2, clash, (LETTER,), 0, as_lists(LETTER), ())


if __name__ == "__main__":
    unittest.main()
