from tests.support import (DONE, REFUSED, TOP, WindowCase, begin, fill, full_content, low_first, message_of,
                           patch, send, take, told, told_answer)
from watchedwindow.slots import answers


def check_of(content):
    """The check by another way, over its bits written out."""
    check = 0
    for start in range(0, 64, 8):
        bits = f"{check:064b}"
        turned = int(bits[1:] + bits[:1], 2)
        check = (turned + int.from_bytes(content[start:start + 8], "little")) % TOP
    return check


def taken(content):
    return [73, 0, *content, *low_first(check_of(content))]


def of_words(words):
    return [byte for word in words for byte in low_first(word)]


class TakeTest(WindowCase):
    def assert_check(self, words, check):
        """Of each of a few slots, and with the check written out, not worked out."""
        for slot in (0, 31, 63):
            before = full_content()
            before[64 * slot:64 * slot + 64] = of_words(words)
            after = list(before)
            after[64 * slot:64 * slot + 64] = [0] * 64
            self.assert_done(take(slot), before, after, [73, 0, *of_words(words), *low_first(check)])

    def test_bytes_check_and_the_slot_after(self):
        for slot in (0, 1, 31, 62, 63):
            before = full_content()
            held = before[64 * slot:64 * slot + 64]
            after = list(before)
            after[64 * slot:64 * slot + 64] = [0] * 64
            self.assert_done(take(slot), before, after, taken(held))

    def test_answer_number_by_number(self):
        calls = begin([64, 72, 127, 4100], [3, 5, 1, 9]) + take(1) + told()
        held = [3] + [0] * 7 + [5] + [0] * 54 + [1]
        # 3 is turned seven times, 5 six times, and the last word is 1 in its highest byte.
        check = [192, 2, 0, 0, 0, 0, 0, 1]
        self.assertEqual(answers(calls), [1, 0] + [73, 0] + held + check + [3, 1, 4100, 9])

    def test_where_each_word_comes_in_the_check(self):
        for k in range(8):
            self.assert_check([0] * k + [1] + [0] * (7 - k), 2 ** (7 - k))

    def test_the_lowest_byte_of_a_word_comes_first(self):
        self.assert_check([0] * 7 + [0x0102030405060708], 0x0102030405060708)

    def test_the_highest_bit_comes_in_below(self):
        self.assert_check([2 ** 63, 0, 0, 0, 0, 0, 0, 0], 2 ** 6)
        self.assert_check([0, 0, 0, 0, 0, 0, 2 ** 63, 0], 1)
        self.assert_check([0, 0, 0, 0, 0, 0, 2 ** 63 + 2 ** 62 + 1, 5], 2 ** 63 + 3 + 5)
        self.assert_check([TOP - 1, 0, 0, 0, 0, 0, 0, 0], TOP - 1)

    def test_the_last_sum_is_not_turned(self):
        self.assert_check([0, 0, 0, 0, 0, 0, 0, 2 ** 63], 2 ** 63)

    def test_the_check_passes_its_top(self):
        self.assert_check([0, 0, 0, 0, 0, 0, 2 ** 62, 2 ** 63], 0)
        self.assert_check([0, 0, 0, 0, 0, 0, TOP - 1, 1], 0)
        self.assert_check([0, 0, 0, 0, 0, 0, TOP - 1, 2], 1)
        self.assert_check([0, 0, 0, 0, 0, TOP - 1, 2, 0], 2)
        # TOP - 1 turned is itself, and TOP - 1 more is TOP - 2, whose turned form is TOP - 3.
        self.assert_check([0, 0, 0, 0, 0, TOP - 1, TOP - 1, 0], TOP - 3)

    def test_every_byte_255(self):
        self.assert_check([TOP - 1] * 8, check_of([255] * 64))
        # From the second word on each step turns the check and takes 1 from it.
        check = TOP - 1
        for k in range(7):
            check = check * 2 % TOP + check // 2 ** 63 - 1
        self.assertEqual(check_of([255] * 64), check)

    def test_a_slot_that_is_0(self):
        self.assert_check([0] * 8, 0)

    def test_the_same_slot_twice(self):
        calls = begin() + send(5, message_of(1)) + take(5) + take(5) + told()
        after = [0] * 4160
        after[4096], after[4104] = 6, 1
        wanted = DONE + DONE + taken(message_of(1)) + [73] + [0] * 73 + told_answer(after)
        self.assert_answers(calls, wanted)

    def test_what_was_written_last_is_taken(self):
        calls = begin() + send(2, message_of(1)) + patch(2, 8, [0] * 8) + take(2)
        held = message_of(1)
        held[8:16] = [0] * 8
        calls += fill(2, 1, TOP - 1, TOP - 1) + take(2) + told()
        filled = of_words([TOP - 1 - k for k in range(8)])
        after = [0] * 4160
        after[4096], after[4104] = 3, 1
        self.assert_answers(calls, DONE * 3 + taken(held) + DONE + taken(filled) + told_answer(after))

    def test_every_slot_one_after_another(self):
        content = full_content()
        calls = begin(list(range(4160)), content)
        wanted = list(DONE)
        for slot in range(64):
            calls += take(slot)
            wanted += taken(content[64 * slot:64 * slot + 64])
        self.assert_answers(calls + told(), wanted + told_answer([0] * 4096 + content[4096:]))

    def test_refused_slots(self):
        for slot in (64, 65, 4096, 2 ** 31, 4294967295):
            self.assert_refused(take(slot))

    def test_a_refused_one_between_two(self):
        calls = begin() + send(63, message_of(4)) + take(64) + take(63) + told()
        wanted = DONE * 2 + REFUSED + taken(message_of(4)) + [5, 2, 4096, 64, 4104, 1]
        self.assert_answers(calls, wanted)
