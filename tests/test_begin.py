from tests.support import DONE, WindowCase, begin, content_of, full_content
from watchedwindow.slots import Window, answers, answers_in


class BeginTest(WindowCase):
    def content_after(self, places, given):
        window = Window()
        self.assertEqual(answers_in(window, begin(places, given)), DONE)
        self.assertEqual(answers(begin(places, given)), DONE)
        return content_of(window)

    def test_no_place_leaves_all_0(self):
        self.assert_content(self.content_after([], []), [0] * 4160)

    def test_bytes_stand_at_their_places_and_the_others_are_0(self):
        wanted = [0] * 4160
        wanted[70], wanted[3], wanted[4000] = 9, 255, 1
        self.assert_content(self.content_after([70, 3, 4000], [9, 255, 1]), wanted)

    def test_first_and_last_place(self):
        wanted = [0] * 4160
        wanted[0], wanted[4159] = 12, 34
        self.assert_content(self.content_after([0, 4159], [12, 34]), wanted)

    def test_the_later_byte_counts(self):
        wanted = [0] * 4160
        wanted[100] = 6
        self.assert_content(self.content_after([100, 100], [5, 6]), wanted)
        wanted[100] = 0
        self.assert_content(self.content_after([100, 100], [5, 0]), wanted)

    def test_every_place_at_once(self):
        content = full_content()
        self.assert_content(self.content_after(list(range(4160)), content), content)

    def test_bell_and_count_have_their_lowest_byte_first(self):
        window = Window()
        answers_in(window, begin([4096, 4097, 4103, 4104, 4111], [1, 2, 3, 4, 5]))
        self.assertEqual(window.bell, 1 + 2 * 2 ** 8 + 3 * 2 ** 56)
        self.assertEqual(window.count, 4 + 5 * 2 ** 56)

    def test_edges_between_the_parts_of_the_window(self):
        for place in (63, 64, 4095, 4096, 4103, 4104, 4111, 4112, 4158):
            wanted = [0] * 4160
            wanted[place] = 77
            self.assert_content(self.content_after([place], [77]), wanted)

    def test_where_the_parts_of_the_window_stand(self):
        window = self.window_with(full_content())
        self.assertEqual(list(window.slots[63]), full_content()[4032:4096])
        self.assertEqual(list(window.spare), full_content()[4112:])
        self.assertEqual(len(window.spare), 48)

    def test_as_many_bytes_as_places(self):
        with self.assertRaises(ValueError):
            answers(begin([1, 2], [3]))
