"""How the tests write calls and look at a window."""
import unittest

from watchedwindow.slots import Window, answers, answers_in

TOP = 2 ** 64
DONE = [1, 0]
REFUSED = [1, -1]
BELL = range(4096, 4104)
COUNT = range(4104, 4112)


def begin(places=(), given=()):
    return [0, len(places), *places, len(given), *given]


def send(slot, message):
    return [1, slot, len(message), *message]


def patch(slot, off, given):
    return [2, slot, off, len(given), *given]


def fill(slot, n, x, step):
    return [3, slot, n, x, step]


def move(source, to, n):
    return [4, source, to, n]


def swap(i, j):
    return [5, i, j]


def take(slot):
    return [6, slot]


def bell(value):
    return [7, value]


def told():
    return [8]


def low_first(number):
    return list(number.to_bytes(8, "little"))


def message_of(seed):
    return [(seed * 37 + k * 11 + 1) % 256 for k in range(64)]


def content_of(window):
    """The window's 4160 bytes, in the document's order."""
    content = [byte for slot in window.slots for byte in slot]
    content += low_first(window.bell) + low_first(window.count)
    return content + list(window.spare)


def full_content():
    """A window in which no byte is 0 and no two slots are alike."""
    return [1 + (place * 7 + place // 64 * 5) % 255 for place in range(4160)]


def told_answer(content):
    """What told answers of a window with these 4160 bytes, with its length before it."""
    row = [number for place in range(4160) if content[place] for number in (place, content[place])]
    return [1 + len(row), len(row) // 2, *row]


def line(content, *calls):
    """A whole line: begin with every place, the calls, told."""
    return begin(list(range(4160)), content) + [number for call in calls for number in call] + told()


class WindowCase(unittest.TestCase):
    # assertEqual would take minutes to tell two rows of 4160 bytes apart.
    def assert_content(self, found, wanted, remark=None):
        self.assertEqual(len(found), 4160, remark)
        self.assertEqual(len(wanted), 4160, remark)
        apart = [place for place in range(4160) if found[place] != wanted[place]]
        if apart:
            place = apart[0]
            self.fail(f"{len(apart)} bytes differ, first at {place}: {found[place]}, not {wanted[place]}; {remark}")

    # For the same reason not assertEqual.
    def assert_answers(self, calls, wanted, remark=None):
        found = answers(calls)
        if found != wanted:
            same = 0
            while same < min(len(found), len(wanted)) and found[same] == wanted[same]:
                same += 1
            self.fail(f"from {same} on {found[same:same + 9]}.., not {wanted[same:same + 9]}..; {remark}")

    def window_with(self, content):
        window = Window()
        calls = begin(list(range(4160)), content)
        self.assertEqual(answers_in(window, calls), DONE)
        self.assert_content(content_of(window), content)
        return window

    def assert_done(self, call, before, after, answer=DONE):
        window = self.window_with(before)
        self.assertEqual(answers_in(window, call), answer)
        self.assert_content(content_of(window), after, call)
        self.assert_answers(line(before, call), DONE + answer + told_answer(after), call)

    def assert_refused(self, call):
        self.assert_done(call, full_content(), full_content(), REFUSED)
        self.assert_done(call, [0] * 4160, [0] * 4160, REFUSED)
