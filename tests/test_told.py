from tests.support import (DONE, TOP, WindowCase, begin, content_of, fill, full_content, line, low_first, send,
                           told, told_answer)
from watchedwindow.slots import Window, answers, answers_in


class ToldTest(WindowCase):
    def test_begin_and_told_alone(self):
        self.assertEqual(answers([0, 0, 0, 8]), [1, 0, 1, 0])

    def test_a_window_that_is_0_throughout(self):
        self.assertEqual(answers(line([0] * 4160)), [1, 0, 1, 0])
        self.assertEqual(answers(begin([5], [9]) + fill(0, 64, 0, 0) + told()), [1, 0, 1, 0, 1, 0])

    def test_a_window_with_no_byte_0(self):
        wanted = [1, 0, 8321, 4160]
        for place, byte in enumerate(full_content()):
            wanted += [place, byte]
        self.assert_answers(line(full_content()), wanted)

    def test_in_the_order_of_places(self):
        calls = begin([4159, 70, 0, 4096], [1, 2, 255, 4]) + told()
        self.assertEqual(answers(calls), DONE + [9, 4, 0, 255, 70, 2, 4096, 4, 4159, 1])

    def test_each_place_alone(self):
        for place in range(4160):
            self.assertEqual(answers(begin([place], [1 + place % 255]) + told()),
                             DONE + [3, 1, place, 1 + place % 255])

    def test_each_byte_alone(self):
        for byte in range(256):
            self.assertEqual(answers(begin([300], [byte]) + told()),
                             DONE + ([3, 1, 300, byte] if byte else [1, 0]))

    def test_bell_count_and_what_lies_behind_them(self):
        places = list(range(4096, 4160))
        given = [place - 4095 for place in places]
        wanted = [n for place in places for n in (place, place - 4095)]
        self.assertEqual(answers(begin(places, given) + told()), DONE + [129, 64] + wanted)

    def test_the_count_that_send_wrote(self):
        calls = begin(range(4104, 4111), [255] * 7) + send(0, [0] * 64) + told()
        self.assertEqual(answers(calls), DONE * 2 + [5, 2, 4096, 1, 4111, 1])

    def test_all_but_one_byte(self):
        for place in (0, 63, 64, 4095, 4096, 4103, 4104, 4111, 4112, 4159):
            content = full_content()
            content[place] = 0
            found = answers(line(content))
            self.assertEqual(found[:4], [1, 0, 8319, 4159])
            self.assertTrue(found == DONE + told_answer(content))

    def test_told_changes_nothing(self):
        window = self.window_with(full_content())
        first = answers_in(window, told())
        self.assertTrue(first == told_answer(full_content()))
        self.assert_content(content_of(window), full_content())
        self.assertTrue(answers_in(window, told()) == first)

    def test_what_is_told_is_not_the_window_itself(self):
        window = Window()
        answers_in(window, begin() + fill(0, 1, TOP - 1, 0))
        answers_in(window, told()).clear()
        self.assertEqual(list(window.slots[0]), low_first(TOP - 1) * 8)
