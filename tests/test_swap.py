from tests.support import DONE, WindowCase, begin, full_content, message_of, send, swap, told, told_answer

NO_SLOTS = (64, 65, 4096, 2 ** 31, 4294967295)


class SwapTest(WindowCase):
    def assert_swapped(self, i, j):
        before = full_content()
        after = list(before)
        after[64 * i:64 * i + 64] = before[64 * j:64 * j + 64]
        after[64 * j:64 * j + 64] = before[64 * i:64 * i + 64]
        self.assert_done(swap(i, j), before, after)

    def test_two_slots(self):
        for i, j in ((0, 63), (63, 0), (0, 1), (1, 0), (62, 63), (17, 40), (40, 17)):
            self.assert_swapped(i, j)

    def test_a_slot_with_itself(self):
        for slot in (0, 1, 31, 63):
            self.assert_done(swap(slot, slot), full_content(), full_content())

    def test_neither_the_bell_nor_the_count_changes(self):
        after = [0] * 4160
        after[256:320] = message_of(1)
        after[4096], after[4104] = 10, 1
        self.assert_answers(begin() + send(9, message_of(1)) + swap(9, 4) + told(), DONE * 3 + told_answer(after))

    def test_twice_is_as_it_was(self):
        calls = begin(list(range(4160)), full_content()) + swap(3, 60) + swap(60, 3) + told()
        self.assert_answers(calls, DONE * 3 + told_answer(full_content()))

    def test_one_behind_another(self):
        before = full_content()
        after = before[64:192] + before[:64] + before[192:]
        calls = begin(list(range(4160)), before) + swap(0, 1) + swap(1, 2) + told()
        self.assert_answers(calls, DONE * 3 + told_answer(after))

    def test_refused_if_only_one_is_no_slot(self):
        for wrong in NO_SLOTS:
            for right in (0, 1, 63):
                self.assert_refused(swap(wrong, right))
                self.assert_refused(swap(right, wrong))

    def test_refused_if_both_are_no_slots(self):
        for i in NO_SLOTS:
            for j in NO_SLOTS:
                self.assert_refused(swap(i, j))
