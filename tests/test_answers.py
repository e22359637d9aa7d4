import contextlib
import io
import random

from tests.support import (DONE, REFUSED, TOP, WindowCase, begin, bell, content_of, fill, full_content, line,
                           low_first, message_of, move, patch, send, swap, take, told, told_answer)
from tests.test_take import taken
from watchedwindow.slots import UnknownCall, Window, answers, answers_in


class Untouchable(list):
    """A list that fails on any change, also on one that is taken back."""

    def refuse(self, *given, **named):
        raise AssertionError("the list that was handed in was changed")

    append = clear = extend = insert = pop = remove = reverse = sort = refuse
    __setitem__ = __delitem__ = __iadd__ = __imul__ = refuse


def every_call():
    """A whole line with each call once done and, where it may be, once refused."""
    return (begin([1, 1, 4159], [2, 3, 4]) + send(63, message_of(1)) + send(64, message_of(2))
            + patch(0, 60, [1, 2, 3, 4]) + patch(0, 61, [1, 2, 3, 4]) + fill(61, 2, TOP - 8, 1)
            + fill(62, 3, 1, 1) + move(62, 61, 2) + move(62, 63, 2) + swap(0, 61) + swap(0, 64)
            + take(62) + take(64) + bell(258) + told())


# After move, slot 61 holds the words 0 to 7, and 62 and 63 the message that
# was sent; swap brings the words to slot 0 and what was patched to slot 61.
EVERY_TOLD = [[8, 1], [16, 2], [24, 3], [32, 4], [40, 5], [48, 6], [56, 7],
              [3905, 3], [3964, 1], [3965, 2], [3966, 3], [3967, 4],
              *[[4032 + k, byte] for k, byte in enumerate(message_of(1))],
              [4096, 2], [4097, 1], [4104, 1], [4159, 4]]
EVERY_ANSWER = (DONE + DONE + REFUSED + DONE + REFUSED + DONE + REFUSED + DONE + REFUSED + DONE + REFUSED
                + taken(message_of(1)) + REFUSED + DONE
                + [1 + 2 * len(EVERY_TOLD), len(EVERY_TOLD)] + [number for pair in EVERY_TOLD for number in pair])


class AnswersTest(WindowCase):
    def test_one_call(self):
        self.assertEqual(answers([0, 0, 0]), [1, 0])

    def test_calls_one_behind_another(self):
        self.assert_answers(every_call(), EVERY_ANSWER)

    def test_a_line_written_out(self):
        calls = [0, 2, 0, 4112, 2, 9, 8,
                 7, 770,
                 3, 1, 1, 1, 0,
                 5, 0, 1,
                 4, 0, 2, 1,
                 2, 2, 1, 2, 6, 7,
                 6, 0,
                 6, 64,
                 5, 64, 0,
                 8]
        words = [1, 0, 0, 0, 0, 0, 0, 0] * 8
        wanted = [1, 0, 1, 0, 1, 0, 1, 0, 1, 0, 1, 0,
                  73, 0, *words, 255, 0, 0, 0, 0, 0, 0, 0,
                  1, -1, 1, -1,
                  29, 14, 64, 9, 128, 1, 129, 6, 130, 7, 136, 1, 144, 1, 152, 1, 160, 1, 168, 1, 176, 1, 184, 1,
                  4096, 2, 4097, 3, 4112, 8]
        self.assertEqual(answers(calls), wanted)

    def test_a_list_of_whole_numbers_is_given_back(self):
        given = answers(every_call())
        self.assertIs(type(given), list)
        self.assertEqual({type(number) for number in given}, {int})

    def test_rows_that_look_like_calls_are_not_read_as_calls(self):
        row = ([4, 0, 1, 1, 8, 6, 4] * 16)[:64]
        wanted = [0] * 4160
        wanted[256:320] = row
        wanted[64:69] = [3, 0, 1, 1, 8]
        wanted[4096], wanted[4104] = 8, 1
        calls = begin() + send(4, row) + patch(1, 0, [3, 0, 1, 1, 8]) + swap(8, 6) + bell(8) + told()
        self.assert_answers(calls, DONE * 5 + told_answer(wanted))

    def test_what_is_handed_in_is_as_it_was(self):
        calls = Untouchable(every_call())
        self.assertTrue(answers(calls) == EVERY_ANSWER)
        self.assertEqual(list(calls), every_call())

    def test_nothing_is_kept_from_one_time_to_the_next(self):
        calls = every_call()
        first = answers(calls)
        first.append(5)
        self.assert_answers(calls, EVERY_ANSWER)
        self.assertEqual(answers(begin() + told()), [1, 0, 1, 0])
        self.assertEqual(answers(begin() + take(63) + told()), [1, 0, 73] + [0] * 73 + [1, 0])
        self.assert_answers(calls, EVERY_ANSWER)

    def test_nothing_is_printed(self):
        with contextlib.redirect_stdout(io.StringIO()) as out, contextlib.redirect_stderr(io.StringIO()) as wrong:
            answers(every_call())
        self.assertEqual(out.getvalue() + wrong.getvalue(), "")

    def test_a_number_that_no_call_has(self):
        for number in (-1, 9, 1000):
            with self.assertRaises(UnknownCall):
                answers(begin() + [number])

    def test_a_list_that_ends_within_a_call(self):
        for calls in ([0], [0, 1, 5], [0, 0, 0, 1], [0, 0, 0, 1, 2, 64, 7], [0, 0, 0, 3, 1, 1, 1],
                      [0, 0, 0, 5, 1], [0, 0, 0, 6], [0, 0, 0, 7]):
            with self.assertRaises(IndexError):
                answers(calls)


class LongLinesTest(WindowCase):
    def test_16000_numbers(self):
        most = line(full_content(), fill(0, 64, 1, TOP - 1) * 1534, swap(0, 63), swap(0, 1))
        self.assertEqual(len(most), 16000)
        words = [byte for k in range(512) for byte in low_first((1 - k) % TOP)]
        after = words[64:128] + words[4032:] + words[128:4032] + words[:64] + full_content()[4096:]
        self.assert_answers(most, DONE * 1537 + told_answer(after))

    def test_16000_numbers_of_messages(self):
        calls = begin()
        for k in range(238):
            calls += send(k % 64, message_of(k))
        calls += take(63) * 25 + told()
        self.assertEqual(len(calls), 16000)
        # Slots 0 to 45 were written a fourth time, by the messages 192 to 237.
        after = [byte for slot in range(64) for byte in message_of(slot + 192 if slot < 46 else slot + 128)]
        wanted = DONE * 239 + taken(after[4032:]) + ([73] + [0] * 73) * 24
        after = after[:4032] + [0] * 64 + low_first(46) + low_first(238) + [0] * 48
        self.assert_answers(calls, wanted + told_answer(after))

    def test_2000_moves(self):
        calls = begin([4095, 0], [7, 5]) + move(0, 1, 63) * 1998 + told()
        after = ([5] + [0] * 63) * 64 + [0] * 64
        self.assert_answers(calls, DONE * 1999 + told_answer(after))

    def test_2000_calls_that_are_mostly_take(self):
        calls = begin([130], [7])
        wanted = list(DONE)
        for k in range(999):
            calls += take(2) + fill(2, 1, k, TOP - k)
            held = [byte for n in range(8) for byte in low_first((k - 1 - (k - 1) * n) % TOP)]
            if k == 0:
                held = [0, 0, 7] + [0] * 61
            wanted += taken(held) + DONE
        held = [byte for n in range(8) for byte in low_first((998 - 998 * n) % TOP)]
        after = [0] * 128 + held + [0] * (4160 - 192)
        self.assert_answers(calls + told(), wanted + told_answer(after))

    def test_2000_calls_all_refused(self):
        for call in (swap(0, 64), take(64), move(0, 1, 64), fill(1, 64, 1, 1), patch(63, 64, [1])):
            self.assert_answers(line(full_content(), call * 1000), DONE + REFUSED * 1000 + told_answer(full_content()))
            self.assertTrue(answers(begin() + call * 1998 + told()) == DONE + REFUSED * 1998 + [1, 0])


class Model:
    """The promises again, on the window's bytes as one flat row."""

    def __init__(self):
        self.content = [0] * 4160

    def send(self, slot, message):
        if slot > 63:
            return REFUSED
        self.content[64 * slot:64 * slot + 64] = message
        count = int.from_bytes(self.content[4104:4112], "little")
        self.content[4096:4112] = low_first(slot + 1) + low_first((count + 1) % TOP)
        return DONE

    def patch(self, slot, off, given):
        if slot > 63 or off + len(given) > 64:
            return REFUSED
        for k, byte in enumerate(given):
            self.content[64 * slot + off + k] = byte
        return DONE

    def fill(self, slot, n, x, step):
        if n < 0 or slot + n > 64:
            return REFUSED
        for k in range(8 * n):
            self.content[64 * slot + 8 * k:64 * slot + 8 * k + 8] = low_first((x + step * k) % TOP)
        return DONE

    def move(self, source, to, n):
        if n < 0 or max(source, to) + n > 64:
            return REFUSED
        self.content[64 * to:64 * (to + n)] = self.content[64 * source:64 * (source + n)]
        return DONE

    def swap(self, i, j):
        if max(i, j) > 63:
            return REFUSED
        for k in range(64):
            low, high = self.content[64 * i + k], self.content[64 * j + k]
            self.content[64 * i + k], self.content[64 * j + k] = high, low
        return DONE

    def take(self, slot):
        if slot > 63:
            return REFUSED
        answer = taken(self.content[64 * slot:64 * slot + 64])
        self.content[64 * slot:64 * slot + 64] = [0] * 64
        return answer

    def bell(self, value):
        self.content[4096:4104] = low_first(value)
        return DONE

    def told(self):
        return told_answer(self.content)


WRITERS = {"send": send, "patch": patch, "fill": fill, "move": move, "swap": swap, "take": take, "bell": bell}


def some_call(source):
    def slot():
        return source.choice([source.randrange(64), source.randrange(60, 68), 0, 63, 64, 4294967295])

    def how_many():
        return source.choice([source.randrange(64), source.randrange(4), source.randrange(-3, 67), 0, 1])

    def word():
        return source.choice([source.randrange(TOP), source.randrange(300), TOP - 1 - source.randrange(300)])

    name = source.choice(sorted(WRITERS))
    if name == "send":
        return name, (slot(), [source.randrange(256) for k in range(64)])
    if name == "patch":
        length = source.randrange(65)
        off = source.choice([source.randrange(66 - length), 64 - length, 65 - length, source.randrange(70)])
        return name, (slot(), off, [source.randrange(256) for k in range(length)])
    if name == "fill":
        return name, (slot(), how_many(), word(), word())
    if name == "move":
        return name, (slot(), slot(), how_many())
    if name == "swap":
        return name, (slot(), slot())
    return name, (slot() if name == "take" else word(),)


class ManyCallsTest(WindowCase):
    def test_as_the_flat_window_tells(self):
        source = random.Random(64)
        for run in range(20):
            model, window = Model(), Window()
            places = [source.randrange(4160) for k in range(source.randrange(4160))]
            given = [source.randrange(256) for place in places]
            for place, byte in zip(places, given):
                model.content[place] = byte
            calls = begin(places, given)
            wanted = list(DONE)
            self.assertEqual(answers_in(window, calls), DONE)
            for k in range(80):
                name, numbers = some_call(source)
                call = WRITERS[name](*numbers)
                answer = getattr(model, name)(*numbers)
                self.assertEqual(answers_in(window, call), answer, (name, numbers))
                self.assert_content(content_of(window), model.content, (name, numbers))
                calls += call
                wanted += answer
            self.assert_answers(calls + told(), wanted + model.told())
