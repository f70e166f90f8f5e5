"""Books and words as lines, and read from lines [21]."""

import unittest

from tests.helpers import LINES, ODD, TWINS, Held, same, small_books, some_books
from throwshelves.bookreadings import read_book, read_word
from throwshelves.booktexts import book_line, word_line


class Lines(Held, unittest.TestCase):
    def fault(self, field, read, text):
        with self.subTest(text=text):
            self.refused("InvalidText", {"line": 0, "field": field}, read, text)

    def test_written_and_read(self):
        for book in small_books() + some_books(12, (1, 3, 12, 20)):
            line = book_line(book)
            self.equal(line.split(" ")[:3], ["book", str(book[0]), str(book[1])])
            self.equal(line.split(" ")[3:], [",".join(map(str, row)) for row in book[2]])
            self.equal(read_book(line), book)
        for word in ((0,), (3,), (1, 0, 12), (10 ** 59, 0), tuple(range(300))):
            self.equal(word_line(word), " ".join(["word", *map(str, word)]))
            self.equal(read_word(word_line(word)), word)

    def test_read_and_written(self):
        for line in ("book 2 1", "book 13 2 1,12", "book 11 3 1,0,10 0,1,10", "book 2 99", "book 2 1 1",
                     "book 3 " + "9" * 60):
            self.equal(book_line(read_book(line)), line)
        for line in ("word 0", "word 7 7 7", "word " + "9" * 60):
            self.equal(word_line(read_word(line)), line)

    def test_word_line_refuses(self):
        for word in ((), [1], (1, -1), (True,), (1, False), ("1",), None, 1, "1", (1, (2,)), (None,)):
            self.unusable("word", word_line, word)

    def test_no_texts(self):
        for thing in ODD:
            if not isinstance(thing, str):
                self.unusable("text", read_book, thing)
                self.unusable("text", read_word, thing)

    def test_head_of_a_book(self):
        for text in ("", " ", "Book 2 1", "books 2 1", "book\n", " book 2 1", "word 2 1", "\nbook 2 1", "book,2,1", "2"):
            self.fault(0, read_book, text)
        for text in ("book", "book ", "book  2 1", "book 1 1", "book 4 1", "book 17 1", "book 02 1", "book +2 1",
                     "book 2\n 1", "book -2 1", "book x", "book 2,3", "book " + "0" * 61, "book 2. 1"):
            self.fault(1, read_book, text)
        for text in ("book 2", "book 2 ", "book 2 0", "book 2 01", "book 2 -1", "book 2 1\n", "book 2 x", "book 2  1",
                     "book 2 1,1", "book 2 " + "1" * 61, "book 2 +1", "book 2 1_0"):
            self.fault(2, read_book, text)

    def test_rows(self):
        for text in ("book 2 1 ", "book 2 1 0", "book 2 1 2", "book 2 1 1,1", "book 2 2 1", "book 2 2 1,", "book 2 2 ,1",
                     "book 2 2 1,,1", "book 2 2 1,01", "book 2 2 1,+1", "book 2 2 1,1\n", "book 2 2 0,0", "book 3 2 2,0",
                     "book 2 2 1,-1", "book 2 2 1;1", "book 2 2 x", "book 2 2 1,2", "book 2 2 1, 1", "book 3 2 0,2",
                     "book 2 2 " + "1" * 61 + ",1"):
            self.fault(3, read_book, text)
        for text in ("book 2 2 1,0 ", "book 2 2 1,0  0,1", "book 2 2 1,0 1,0", "book 2 2 0,1 1,0", "book 2 2 1,1 0,1",
                     "book 5 2 1,0 0,2", "book 2 2 1,0 0,0", "book 2 2 1,0 0", "book 2 2 1,0 0,1,0"):
            self.fault(4, read_book, text)
        self.fault(5, read_book, "book 2 2 1,0 0,1 0,1")
        self.fault(5, read_book, "book 2 3 1,0,1 0,1,1 0,0,1")
        self.fault(3, read_book, "book 2 2 0,0 0,0")

    def test_no_words(self):
        for text in ("", " ", "Word 1", "words 1", "book 1", " word 1", "word\n 1", "1 2"):
            self.fault(0, read_word, text)
        for text in ("word", "word ", "word  1", "word x", "word -1", "word 01", "word 00", "word 1,2", "word 1\n", "word \n",
                     "word " + "1" * 61, "word +1", "word 1_0", "word True"):
            self.fault(1, read_word, text)
        self.fault(2, read_word, "word 1 ")
        self.fault(3, read_word, "word 1 2 x 04")
        self.fault(3, read_word, "word 1 2  4")

    def test_handed_in_stays(self):
        kept = same(LINES, (7, 4, ((1, 0, 6, 5), (0, 1, 2, 3))))
        book_line(LINES)
        self.assertTrue(kept and same(read_book(book_line(TWINS)), TWINS))


if __name__ == "__main__":
    unittest.main()
