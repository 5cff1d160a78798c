import itertools
import unittest

from things import TOP

from traitorround.stamps import Book


def full_book(path, word):
    book = Book()
    for ahead, hand in enumerate(path):
        book.stamp(hand, path[:ahead], word)
    return book


class TestBook(unittest.TestCase):
    def test_a_new_book(self):
        book = Book()
        self.assertEqual(book.stamps(), [])
        self.assertIs(book.has(0, (), 5), False)
        self.assertIs(book.genuine((0,), 5), False)

    def test_stamp_tells_none(self):
        book = Book()
        self.assertIsNone(book.stamp(0, (), 5))
        self.assertIsNone(book.stamp(0, (), 5))

    def test_has(self):
        book = Book()
        book.stamp(1, (0, 2), 5)
        self.assertIs(book.has(1, (0, 2), 5), True)
        for hand, path, word in [
            (0, (0, 2), 5), (1, (0,), 5), (1, (2, 0), 5), (1, (), 5), (1, (0, 2, 1), 5), (1, (0, 2), 6),
            (1, (0, 2), -5), (1, (0, 2), 0), (1, (0, 3), 5),
        ]:
            self.assertIs(book.has(hand, path, word), False, (hand, path, word))

    def test_asking_makes_no_stamp(self):
        book = Book()
        book.has(1, (0,), 5)
        book.genuine((0, 1), 5)
        self.assertEqual(book.stamps(), [])

    def test_the_empty_path_is_genuine(self):
        for word in (0, 5, -5, TOP):
            self.assertIs(Book().genuine((), word), True)
            self.assertIs(full_book((0, 1), 5).genuine((), word), True)

    def test_a_path_with_all_its_stamps(self):
        for length in range(1, 8):
            for path in itertools.islice(itertools.permutations(range(7), length), 0, None, 97):
                book = full_book(path, -7)
                for ahead in range(length + 1):
                    self.assertIs(book.genuine(path[:ahead], -7), True)

    def test_one_stamp_lacking(self):
        path = (3, 0, 6, 2, 1)
        for lacking in range(5):
            book = Book()
            for ahead, hand in enumerate(path):
                if ahead != lacking:
                    book.stamp(hand, path[:ahead], 5)
            self.assertIs(book.genuine(path, 5), False, lacking)
            for ahead in range(6):
                self.assertIs(book.genuine(path[:ahead], 5), ahead <= lacking)
            # A stamp of another word, of another hand or behind another path doesn't help.
            book.stamp(path[lacking], path[:lacking], 6)
            book.stamp(4, path[:lacking], 5)
            book.stamp(path[lacking], path[:lacking] + (4,), 5)
            self.assertIs(book.genuine(path, 5), False, lacking)
            book.stamp(path[lacking], path[:lacking], 5)
            self.assertIs(book.genuine(path, 5), True, lacking)

    def test_order_of_making_does_not_matter(self):
        for order in itertools.permutations(range(3)):
            book = Book()
            for ahead in order:
                book.stamp((2, 0, 1)[ahead], (2, 0, 1)[:ahead], 4)
            self.assertIs(book.genuine((2, 0, 1), 4), True)

    def test_another_word(self):
        book = full_book((2, 0, 1), 4)
        self.assertIs(book.genuine((2, 0, 1), 5), False)
        self.assertIs(book.genuine((2,), 5), False)
        self.assertIs(book.genuine((0, 2, 1), 4), False)
        self.assertIs(book.genuine((2, 1), 4), False)

    def test_stamps_each_once_sorted(self):
        book = Book()
        made = [
            (2, (0,), 5), (0, (), 5), (0, (), -5), (2, (), 5), (0, (), 5), (1, (0, 2), 5), (10, (), 5), (2, (0, 1), 5),
            (0, (), TOP), (0, (1,), 0), (0, (), 5),
        ]
        for stamp in made:
            book.stamp(*stamp)
        self.assertEqual(book.stamps(), [
            (0, (), -5), (0, (), 5), (0, (), TOP), (0, (1,), 0), (1, (0, 2), 5), (2, (), 5), (2, (0,), 5),
            (2, (0, 1), 5), (10, (), 5),
        ])

    def test_list_is_the_askers_own(self):
        book = full_book((2, 0), 4)
        told = book.stamps()
        self.assertIs(type(told), list)
        self.assertEqual([type(stamp) for stamp in told], [tuple, tuple])
        told.clear()
        told.append((5, (), 5))
        self.assertEqual(book.stamps(), [(0, (2,), 4), (2, (), 4)])
        self.assertIs(book.has(5, (), 5), False)

    def test_two_books_do_not_touch(self):
        one, other = Book(), Book()
        one.stamp(0, (), 5)
        self.assertEqual(other.stamps(), [])
        self.assertIs(other.has(0, (), 5), False)


if __name__ == "__main__":
    unittest.main()
