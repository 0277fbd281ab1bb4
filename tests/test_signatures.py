"""Tests of points 700 to 709: presses and signatures."""

import copy
import itertools
import unittest
from unittest.mock import ANY

import oracle
import samples
from probewright import signatures
from probewright.circuits import Circuit
from probewright.errors import BadBreak, BadPattern, BadSignature
from probewright.signatures import Press, added, hidden, lost
from test_meaning import NO_PATTERNS, NO_VERSIONS

# One tap and several, of each width.
PRESSES = [
    (1, (0,)), (2, (1,)), (2, (0, 1)), (5, (4,)), (5, (1, 4)), (5, (0, 1, 2, 3, 4)), (16, (15,)),
    (16, (3, 12, 14, 15)), (17, (16,)), (17, (0, 5, 16)), (64, (63,)), (64, (0, 1, 31, 62, 63)),
]


def next_state(width, taps, state, word):
    """Follow point 702 bit by bit."""
    found = []
    for index in range(width):
        if index == 0:
            found.append((sum(state[tap] for tap in taps) + word[0]) % 2)
        else:
            found.append((state[index - 1] + word[index]) % 2)
    return tuple(found)


def words_for(numbers, width, count):
    return [tuple(numbers.below(2) for _ in range(width)) for _ in range(count)]


class Making(unittest.TestCase):
    def test_the_constant(self):
        self.assertEqual(signatures.MOST_PERIOD, 16)
        self.assertIs(type(signatures.MOST_PERIOD), int)

    def test_attributes(self):
        for width, taps in PRESSES:
            press = Press(width, taps)
            self.assertEqual((press.width, press.taps), (width, taps))
            self.assertIs(type(press.taps), tuple)

    def test_all_of_width_three(self):
        for many in range(5):
            for taps in itertools.product(range(-1, 4), repeat=many):
                fits = list(taps) == sorted(set(taps)) and taps[-1:] == (2,) and min(taps) >= 0
                with self.subTest(taps=taps):
                    if fits:
                        self.assertEqual(Press(3, taps).taps, taps)
                    else:
                        self.assertRaises(BadSignature, Press, 3, taps)

    def test_wrong_widths(self):
        for width in [0, -1, 65, 10 ** 30, True, False, None, "3", 3.0, (3,), [3], ANY]:
            for taps in [(2,), (0,), (64,), (), (0, 1, 2)]:
                with self.subTest(width=width, taps=taps):
                    self.assertRaises(BadSignature, Press, width, taps)

    def test_wrong_taps(self):
        wrong = [
            (), [2], [0, 2], (0, 1), (0,), (2, 0), (0, 0, 2), (0, 2, 2), (1, 0, 2), (3,), (2, 3), (-1, 2), (0, 1, 2, 3),
            (True, 2), (False, 2), (0, True, 2), (None, 2), ("1", 2), (1.0, 2), (0, 2.0), (ANY,), (0, ANY), (ANY, 2),
            ((0, 2),), "012", b"\x00\x02", None, 2, ANY, {2: 0}, {2}, range(3),
        ]
        for taps in wrong:
            with self.subTest(taps=taps):
                self.assertRaises(BadSignature, Press, 3, taps)
        self.assertRaises(BadSignature, Press, 2, (True,))
        self.assertRaises(BadSignature, Press, 1, (False,))
        self.assertRaises(BadSignature, Press, 1, (0, 0))
        self.assertRaises(BadSignature, Press, 1, ())


class Steps(unittest.TestCase):
    def test_the_examples_of_the_document(self):
        press = Press(3, (1, 2))
        self.assertEqual(press.step((1, 1, 0), (0, 0, 1)), (1, 1, 0))
        self.assertEqual(press.press([(1, 0, 0), (0, 1, 0), (0, 0, 0)]), (0, 0, 0))
        self.assertEqual(press.fold((1, 1, 0, 1, 1)), (0, 0, 0))
        self.assertEqual(press.blind(2)[0], [(1, 0, 0), (0, 1, 0)])
        self.assertEqual(press.period(), 7)
        self.assertIs(hidden(press, [(1, 0, 0), (0, 0, 0)], [(0, 0, 0), (0, 1, 0)]), True)

    def test_step_by_step(self):
        numbers = samples.Numbers(1)
        for width, taps in PRESSES:
            press = Press(width, taps)
            for _ in range(20):
                state, word = words_for(numbers, width, 2)
                with self.subTest(width=width, taps=taps, state=state, word=word):
                    found = press.step(state, word)
                    self.assertEqual(found, next_state(width, taps, state, word))
                    self.assertIs(type(found), tuple)
                    self.assertTrue(all(type(bit) is int for bit in found))

    def test_different_states_stay_different(self):
        for width, taps in PRESSES[:6]:
            press = Press(width, taps)
            states = list(itertools.product((0, 1), repeat=width))
            for word in states[:3]:
                self.assertEqual(len({press.step(state, word) for state in states}), len(states))

    def test_wrong_states_and_words(self):
        press = Press(3, (1, 2))
        right = (0, 1, 1)
        for value in [(), (0, 1), (0, 1, 1, 0), [0, 1, 1], (0, 1, True), (False, 0, 0), (0, 2, 0), (0, -1, 0), "011",
                      (0, None, 0), ("0", 0, 0), (0.0, 0, 0), None, 0, ANY, (ANY, ANY, ANY), b"\x00\x01\x00"]:
            with self.subTest(value=value):
                self.assertRaises(BadSignature, press.step, value, right)
                self.assertRaises(BadSignature, press.step, right, value)
                self.assertRaises(BadSignature, press.step, value, value)
                for words in ([value], [right, value], [value, right], [right, right, value]):
                    self.assertRaises(BadSignature, press.press, words)

    def test_press(self):
        numbers = samples.Numbers(2)
        for width, taps in PRESSES:
            press = Press(width, taps)
            for count in (0, 1, 2, 3, 9):
                words = words_for(numbers, width, count)
                kept = list(words)
                state = (0,) * width
                for word in words:
                    state = next_state(width, taps, state, word)
                self.assertEqual(press.press(words), state)
                self.assertEqual(words, kept)
            self.assertEqual(press.press([]), (0,) * width)

    def test_sums(self):
        numbers = samples.Numbers(3)
        for width, taps in PRESSES:
            press = Press(width, taps)
            for count in (0, 1, 2, 5):
                one, other = words_for(numbers, width, count), words_for(numbers, width, count)
                kept = (list(one), list(other))
                total = added(one, other)
                self.assertIs(type(total), list)
                self.assertEqual(total, [
                    tuple((left + right) % 2 for left, right in zip(*pair)) for pair in zip(one, other)])
                self.assertEqual((one, other), kept)
                self.assertEqual(added([press.press(one)], [press.press(other)]), [press.press(total)])

    def test_states_and_words_add_up(self):
        numbers = samples.Numbers(4)
        for width, taps in PRESSES:
            press = Press(width, taps)
            s, t, x, y = words_for(numbers, width, 4)
            left = added([press.step(s, x)], [press.step(t, y)])
            self.assertEqual(left, [press.step(added([s], [t])[0], added([x], [y])[0])])

    def test_added_by_hand(self):
        self.assertEqual(added([], []), [])
        self.assertEqual(added([(0, 1, 1)], [(1, 1, 0)]), [(1, 0, 1)])
        self.assertEqual(added([(0,), (1,)], [(1,), (1,)]), [(1,), (0,)])


class Folding(unittest.TestCase):
    def test_by_hand(self):
        press = Press(3, (2,))
        for response, word in [
            ((), (0, 0, 0)), ((1,), (1, 0, 0)), ((0, 1), (0, 1, 0)), ((1, 0, 1), (1, 0, 1)),
            ((1, 0, 1, 1), (0, 0, 1)), ((0, 0, 0, 0, 0, 1), (0, 0, 1)), ((1,) * 7, (1, 0, 0)), ((1,) * 8, (1, 1, 0)),
        ]:
            with self.subTest(response=response):
                self.assertEqual(press.fold(response), word)

    def test_all_lengths(self):
        numbers = samples.Numbers(6)
        for width, taps in PRESSES:
            press = Press(width, taps)
            for length in [0, 1, width - 1, width, width + 1, 2 * width, 3 * width + 2]:
                response = tuple(numbers.below(2) for _ in range(length))
                found = press.fold(response)
                with self.subTest(width=width, response=response):
                    self.assertIs(type(found), tuple)
                    self.assertEqual(found, tuple(sum(response[k::width]) % 2 for k in range(width)))

    def test_wrong_responses(self):
        press = Press(3, (1, 2))
        for value in [[0, 1], [], "01", "", b"\x00", None, 0, (True,), (0, False), (2,), (0, -1), (None,), ("0",),
                      (0.0,), ((0,),), ANY, (ANY,), {}, {0: 1}, range(2)]:
            with self.subTest(value=value):
                self.assertRaises(BadSignature, press.fold, value)
                for table in ([value], [(0, 1), value], [value, (0, 1)]):
                    self.assertRaises(BadSignature, press.signature, table)
                    self.assertRaises(BadSignature, hidden, press, table, [(0, 0)] * len(table))
                    self.assertRaises(BadSignature, hidden, press, [(0, 0)] * len(table), table)

    def test_signature(self):
        numbers = samples.Numbers(7)
        for width, taps in PRESSES:
            press = Press(width, taps)
            for length in (0, 1, 4, width, width + 3):
                for count in (0, 1, 5):
                    table = words_for(numbers, length, count)
                    kept = list(table)
                    self.assertEqual(press.signature(table), press.press([press.fold(row) for row in table]))
                    self.assertEqual(table, kept)
        # Responses of different lengths, too.
        press = Press(2, (1,))
        self.assertEqual(press.signature([(1, 1, 1), (), (1,)]), press.press([(0, 1), (0, 0), (1, 0)]))


def choices(entries, width, count):
    """Return the sums of all choices of some lists of words."""
    found = []
    for chosen in itertools.product((0, 1), repeat=len(entries)):
        total = [(0,) * width] * count
        for taken, entry in zip(chosen, entries):
            if taken:
                total = added(total, entry)
        found.append(total)
    return found


class Blind(unittest.TestCase):
    def test_the_entries(self):
        for width, taps in PRESSES:
            press = Press(width, taps)
            for count in (0, 1, 2, 3, 6):
                found = press.blind(count)
                places = [(k, index) for k in range(count - 1) for index in range(width)]
                with self.subTest(width=width, taps=taps, count=count):
                    self.assertIs(type(found), list)
                    self.assertEqual(len(found), len(places))
                    for (k, index), words in zip(places, found):
                        self.assertIs(type(words), list)
                        self.assertEqual(len(words), count)
                        for place, word in enumerate(words[:-1]):
                            ones = [index] if place == k else []
                            self.assertEqual(word, tuple(1 if at in ones else 0 for at in range(width)))
                        self.assertTrue(all(type(word) is tuple and len(word) == width for word in words))
                        self.assertEqual(press.press(words), (0,) * width)

    def test_every_blind_list_is_one_sum(self):
        for width, taps in ((1, (0,)), (2, (1,)), (2, (0, 1)), (3, (1, 2)), (3, (2,))):
            press = Press(width, taps)
            for count in range(4):
                words = list(itertools.product((0, 1), repeat=width))
                blind = [list(row) for row in itertools.product(words, repeat=count)
                         if press.press(list(row)) == (0,) * width]
                sums = choices(press.blind(count), width, count)
                with self.subTest(width=width, taps=taps, count=count):
                    self.assertEqual(sorted(sums), sorted(blind))

    def test_lists_with_the_same_signature_differ_by_a_blind_one(self):
        press = Press(2, (0, 1))
        lists = [list(row) for row in itertools.product(itertools.product((0, 1), repeat=2), repeat=3)]
        blind = choices(press.blind(3), 2, 3)
        for one in lists:
            for other in lists[::5]:
                self.assertEqual(press.press(one) == press.press(other), added(one, other) in blind)
                if sum(left != right for left, right in zip(one, other)) == 1:
                    self.assertNotEqual(press.press(one), press.press(other))

    def test_no_and_one_word(self):
        for width, taps in PRESSES:
            self.assertEqual(Press(width, taps).blind(0), [])
            self.assertEqual(Press(width, taps).blind(1), [])

    def test_a_thousand_words(self):
        press = Press(1, (0,))
        found = press.blind(1000)
        self.assertEqual(len(found), 999)
        self.assertEqual([press.press(words) for words in found], [(0,)] * 999)
        self.assertEqual(found[500][500], (1,))

    def test_wrong_counts(self):
        for press in (Press(1, (0,)), Press(3, (1, 2))):
            for count in [-1, -5, 1001, 10 ** 30, True, False, None, "2", 2.0, (2,), [2], ANY]:
                with self.subTest(count=count):
                    self.assertRaises(BadSignature, press.blind, count)

    def test_what_is_returned_may_be_changed(self):
        press = Press(3, (1, 2))
        kept = copy.deepcopy(press.blind(3))
        found = press.blind(3)
        found[0][0] = 7
        self.assertEqual(found[1:], kept[1:])
        for words in found:
            words.clear()
        self.assertEqual(press.blind(3), kept)
        self.assertEqual((press.width, press.taps), (3, (1, 2)))


class Hidden(unittest.TestCase):
    def test_by_hand(self):
        press = Press(2, (1,))
        self.assertIs(hidden(press, [(0, 1)], [(0, 1)]), False)
        self.assertIs(hidden(press, [], []), False)
        self.assertIs(hidden(press, [(0, 1)], [(1, 1)]), False)
        self.assertIs(hidden(press, [], [(0, 0)]), False)
        self.assertIs(hidden(press, [(0, 0), (0, 0)], [(0, 0)]), False)
        # Folding already hides some.
        self.assertIs(hidden(press, [(1, 0, 1)], [(0, 0, 0)]), True)
        self.assertIs(hidden(press, [(1, 0), (0, 1)], [(0, 0), (0, 0)]), True)

    def test_all_lists_of_a_small_press(self):
        for width, taps in ((1, (0,)), (2, (1,)), (2, (0, 1))):
            press = Press(width, taps)
            lists = [list(row) for row in itertools.product(itertools.product((0, 1), repeat=2), repeat=3)]
            for one in lists[::3]:
                for other in lists:
                    found = hidden(press, one, other)
                    self.assertIs(found, one != other and press.signature(one) == press.signature(other))


class Lost(unittest.TestCase):
    def test_against_all_breaks(self):
        seen = 0
        for parts in samples.SMALL + (samples.NO_GATES,):
            circuit = Circuit(*parts)
            breaks = samples.versions(parts)[1:]
            breaks = breaks + breaks[::3]
            for width, taps in ((1, (0,)), (2, (1,)), (3, (1, 2)), (16, (15,))):
                press = Press(width, taps)
                for patterns in (oracle.patterns_of(parts), oracle.patterns_of(parts)[:2] * 2, []):
                    right = [oracle.response(parts, None, pattern) for pattern in patterns]
                    expected = []
                    for broken in breaks:
                        rows = [oracle.response(parts, broken, pattern) for pattern in patterns]
                        if rows != right and press.signature(rows) == press.signature(right):
                            expected.append(broken)
                    kept = (list(breaks), list(patterns))
                    with self.subTest(parts=parts, width=width, patterns=patterns):
                        self.assertEqual(lost(circuit, breaks, patterns, press), expected)
                        self.assertEqual((breaks, patterns), kept)
                    seen += len(expected)
        self.assertGreater(seen, 20)

    def test_by_hand(self):
        circuit = Circuit(("a",), (), (("y", "not", ("a",)),), ("a", "y"))
        press = Press(1, (0,))
        # The word of a response is 1 for the right circuit, whatever `a` is.
        self.assertEqual(lost(circuit, [("stem", "a", 0)] * 2, [(1,)], press), [("stem", "a", 0)] * 2)
        self.assertEqual(lost(circuit, [("stem", "y", 1)], [(1,)], press), [])
        self.assertEqual(lost(circuit, [("stem", "y", 1)], [(1,), (1,)], press), [("stem", "y", 1)])
        self.assertEqual(lost(circuit, [("stem", "a", 0)], [(0,)], press), [])
        self.assertEqual(lost(circuit, [], [(0,)], press), [])
        self.assertEqual(lost(circuit, [("stem", "a", 0)], [], press), [])

    def test_wrong_arguments(self):
        circuit = Circuit(*samples.HALF)
        press = Press(2, (1,))
        right = ("stem", "a", 0)
        for value in [None] + NO_VERSIONS + samples.STRANGE:
            for breaks in ([value], [right, value], [value, right]):
                with self.subTest(breaks=breaks):
                    self.assertRaises(BadBreak, lost, circuit, breaks, [(0, 1)], press)
                    self.assertRaises(BadBreak, lost, circuit, breaks, [(0,)], press)
        for value in NO_PATTERNS + samples.STRANGE:
            for patterns in ([value], [(0, 1), value]):
                with self.subTest(patterns=patterns):
                    self.assertRaises(BadPattern, lost, circuit, [right], patterns, press)
                    self.assertRaises(BadPattern, lost, circuit, [], patterns, press)


class Periods(unittest.TestCase):
    def test_counted_step_by_step(self):
        for width in range(1, 9):
            for taken in itertools.product((0, 1), repeat=width - 1):
                taps = tuple(k for k in range(width - 1) if taken[k]) + (width - 1,)
                first = (1,) + (0,) * (width - 1)
                state = next_state(width, taps, first, (0,) * width)
                steps = 1
                while state != first:
                    state = next_state(width, taps, state, (0,) * width)
                    steps += 1
                with self.subTest(width=width, taps=taps):
                    self.assertEqual(Press(width, taps).period(), steps)

    def test_by_hand(self):
        self.assertEqual(Press(1, (0,)).period(), 1)
        self.assertEqual(Press(2, (1,)).period(), 2)
        self.assertEqual(Press(2, (0, 1)).period(), 3)
        self.assertEqual(Press(16, (15,)).period(), 16)
        self.assertEqual(Press(16, (3, 12, 14, 15)).period(), 65535)

    def test_too_wide(self):
        for width, taps in ((17, (16,)), (17, (2, 16)), (18, (17,)), (64, (63,))):
            self.assertRaises(BadSignature, Press(width, taps).period)


if __name__ == "__main__":
    unittest.main()
