import random

from tests.support import (DONE, REFUSED, TOP, WindowCase, begin, content_of, fill, full_content, low_first,
                           message_of, move, patch, send)
from watchedwindow.slots import UnknownCall, Window, answers, answers_in


class Untouchable(list):
    """A list that fails on any change, also on one that is taken back."""

    def refuse(self, *given, **named):
        raise AssertionError("the list that was handed in was changed")

    append = clear = extend = insert = pop = remove = reverse = sort = refuse
    __setitem__ = __delitem__ = __iadd__ = __imul__ = refuse


def every_call():
    return (begin([1, 1, 4159], [2, 3, 4]) + send(63, message_of(1)) + send(64, message_of(2))
            + patch(0, 60, [1, 2, 3, 4]) + patch(0, 61, [1, 2, 3, 4]) + fill(62, 2, TOP - 1, 1)
            + fill(62, 3, 1, 1) + move(62, 61, 2) + move(62, 63, 2))


EVERY_ANSWER = DONE + DONE + REFUSED + DONE + REFUSED + DONE + REFUSED + DONE + REFUSED


class AnswersTest(WindowCase):
    def test_one_call(self):
        self.assertEqual(answers([0, 0, 0]), [1, 0])

    def test_calls_one_behind_another(self):
        self.assertEqual(answers(every_call()), EVERY_ANSWER)

    def test_a_list_of_whole_numbers_is_given_back(self):
        given = answers(every_call())
        self.assertIs(type(given), list)
        self.assertEqual({type(number) for number in given}, {int})

    def test_rows_that_look_like_calls_are_not_read_as_calls(self):
        row = ([4, 0, 1, 1] * 16)[:64]
        window = Window()
        self.assertEqual(answers_in(window, begin() + send(4, row) + patch(1, 0, [3, 0, 1, 1, 1])), DONE * 3)
        wanted = [0] * 4160
        wanted[256:320] = row
        wanted[64:69] = [3, 0, 1, 1, 1]
        wanted[4096], wanted[4104] = 5, 1
        self.assert_content(content_of(window), wanted)

    def test_what_is_handed_in_is_as_it_was(self):
        calls = Untouchable(every_call())
        self.assertEqual(answers(calls), EVERY_ANSWER)
        self.assertEqual(list(calls), every_call())

    def test_nothing_is_kept_from_one_time_to_the_next(self):
        calls = every_call()
        first = answers(calls)
        first.append(5)
        self.assertEqual(answers(calls), EVERY_ANSWER)
        window = Window()
        answers_in(window, begin())
        self.assert_content(content_of(window), [0] * 4160)

    def test_as_long_as_a_list_may_be(self):
        most = begin(list(range(4160)), full_content())
        fills = (16000 - len(most)) // 5
        most += fill(0, 64, 1, TOP - 1) * fills
        self.assertTrue(answers(most) == DONE * (1 + fills))
        self.assertTrue(answers(begin() + move(0, 1, 63) * 1999) == DONE * 2000)

    def test_a_number_that_no_call_has(self):
        for number in (-1, 9, 1000):
            with self.assertRaises(UnknownCall):
                answers(begin() + [number])

    def test_a_list_that_ends_within_a_call(self):
        for calls in ([0], [0, 1, 5], [0, 0, 0, 1], [0, 0, 0, 1, 2, 64, 7], [0, 0, 0, 3, 1, 1, 1]):
            with self.assertRaises(IndexError):
                answers(calls)


class Model:
    """The promises again, on the window's bytes as one flat row."""

    def __init__(self):
        self.content = [0] * 4160

    def send(self, slot, message):
        if slot > 63:
            return REFUSED
        self.content[64 * slot:64 * slot + 64] = message
        count = int.from_bytes(self.content[4104:4112], "little")
        self.content[4096:4112] = low_first(slot + 1) + low_first((count + 1) % TOP)
        return DONE

    def patch(self, slot, off, given):
        if slot > 63 or off + len(given) > 64:
            return REFUSED
        for k, byte in enumerate(given):
            self.content[64 * slot + off + k] = byte
        return DONE

    def fill(self, slot, n, x, step):
        if n < 0 or slot + n > 64:
            return REFUSED
        for k in range(8 * n):
            self.content[64 * slot + 8 * k:64 * slot + 8 * k + 8] = low_first((x + step * k) % TOP)
        return DONE

    def move(self, source, to, n):
        if n < 0 or max(source, to) + n > 64:
            return REFUSED
        self.content[64 * to:64 * (to + n)] = self.content[64 * source:64 * (source + n)]
        return DONE


WRITERS = {"send": send, "patch": patch, "fill": fill, "move": move}


def some_call(source):
    def slot():
        return source.choice([source.randrange(64), source.randrange(60, 68), 0, 63, 64, 4294967295])

    def how_many():
        return source.choice([source.randrange(64), source.randrange(4), source.randrange(-3, 67), 0, 1])

    def word():
        return source.choice([source.randrange(TOP), source.randrange(300), TOP - 1 - source.randrange(300)])

    name = source.choice(sorted(WRITERS))
    if name == "send":
        return name, (slot(), [source.randrange(256) for k in range(64)])
    if name == "patch":
        length = source.randrange(65)
        off = source.choice([source.randrange(66 - length), 64 - length, 65 - length, source.randrange(70)])
        return name, (slot(), off, [source.randrange(256) for k in range(length)])
    if name == "fill":
        return name, (slot(), how_many(), word(), word())
    return name, (slot(), slot(), how_many())


class ManyCallsTest(WindowCase):
    def test_as_the_flat_window_tells(self):
        source = random.Random(64)
        for run in range(20):
            model, window = Model(), Window()
            places = [source.randrange(4160) for k in range(source.randrange(4160))]
            given = [source.randrange(256) for place in places]
            for place, byte in zip(places, given):
                model.content[place] = byte
            calls = begin(places, given)
            wanted = list(DONE)
            self.assertEqual(answers_in(window, calls), DONE)
            for k in range(60):
                name, numbers = some_call(source)
                call = WRITERS[name](*numbers)
                answer = getattr(model, name)(*numbers)
                self.assertEqual(answers_in(window, call), answer, (name, numbers))
                self.assert_content(content_of(window), model.content, (name, numbers))
                calls += call
                wanted += answer
            self.assertEqual(answers(calls), wanted)
