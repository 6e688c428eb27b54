import unittest

import making
from making import (FALSE, HEADER, NONE, TRUE, array, built, chain, data, date, dictionary, framed, integer, number,
                    real, sized, text, trailer, uid, wide)
from nestfile.errors import NoBytes, Torn
from nestfile.files import Nest, entries, octets, read, top

FIVE = built([integer(5)])


def rows(file):
    return [(one.kind, one.place, one.length, one.references) for one in entries(read(file))]


def edited(file, place, *octets):
    """The file with these bytes written over those at the place."""
    file = list(file)
    place %= len(file)
    file[place:place + len(octets)] = octets
    return file


class Case(unittest.TestCase):
    def torn(self, file, word, place):
        before = list(file)
        with self.assertRaises(Torn) as caught:
            read(file)
        self.assertEqual((caught.exception.word, caught.exception.place), (word, place))
        self.assertEqual(file, before)

    def sound(self, file):
        self.assertIsInstance(read(file), Nest)


class TestGoodFiles(Case):
    def test_the_smallest_file(self):
        self.assertEqual(len(built([NONE])), 42)
        self.assertEqual(rows(built([NONE])), [("none", 8, 1, ())])

    def test_a_tuple_and_a_keyword(self):
        self.assertEqual(octets(read(tuple(FIVE))), FIVE)
        self.assertEqual(octets(read(data=FIVE)), FIVE)

    def test_later_changes_have_no_effect(self):
        file = list(FIVE)
        nest = read(file)
        file[9] = 77
        file.append(1)
        self.assertEqual(octets(nest), FIVE)
        returned = octets(nest)
        returned[9] = 77
        self.assertEqual(octets(nest), FIVE)

    def test_the_kinds(self):
        eight = [1, 2, 3, 4, 5, 6, 7, 8]
        for kind, one in [("none", NONE), ("truth", TRUE), ("truth", FALSE), ("integer", integer(0)),
                          ("real", real(eight)), ("real", real(eight[:4])), ("date", date(eight)),
                          ("data", data([])), ("data", data([0, 255])), ("string", text("")), ("string", text("a b")),
                          ("string", wide([])), ("string", wide([97])), ("string", wide([65535])),
                          ("string", text("a\x00")), ("uid", uid(5)), ("list", array([])),
                          ("dictionary", dictionary([]))]:
            with self.subTest(one):
                self.assertEqual(rows(built([one])), [(kind, 8, len(one), ())])

    def test_integers_of_all_widths(self):
        for n in range(5):
            with self.subTest(n):
                self.assertEqual(rows(built([integer(5, n)])), [("integer", 8, 1 + 2 ** n, ())])
                self.assertTrue(read(built([integer(5, n)])) == read(FIVE))
        for n in (3, 4):
            for value in (-1, -(2 ** 63)):
                self.sound(built([integer(value, n)]))
                self.assertTrue(read(built([integer(value, n)])) == read(built([integer(value, 3)])))
        # Not negative for n up to 2.
        for n in range(3):
            high = read(built([integer(256 ** 2 ** n - 1, n)]))
            self.assertTrue(high == read(built([integer(256 ** 2 ** n - 1, 4)])))
            self.assertFalse(high == read(built([integer(-1, 3)])))

    def test_uids_of_all_widths(self):
        for width in range(1, 17):
            with self.subTest(width):
                self.assertEqual(rows(built([uid(5, width)])), [("uid", 8, width + 1, ())])
                self.assertTrue(read(built([uid(5, width)])) == read(built([uid(5)])))
        self.assertFalse(read(built([uid(5)])) == read(FIVE))

    def test_sizes_in_all_widths(self):
        for size in (0, 1, 14, 15, 16, 100):
            for n in range(5):
                with self.subTest(size=size, n=n):
                    head = 2 + 2 ** n
                    self.assertEqual(rows(built([data([7] * size, n)])), [("data", 8, head + size, ())])
                    self.assertEqual(rows(built([text("x" * size, n)])), [("string", 8, head + size, ())])
                    self.assertEqual(rows(built([wide([9] * size, n)])), [("string", 8, head + 2 * size, ())])
                    self.assertEqual(rows(built([NONE, array([0] * size, 1, n)]))[1],
                                     ("list", 9, head + size, (0,) * size))
        keys = [text("k" + str(at)) for at in range(20)]
        pairs = [(at, 19 - at) for at in range(20)]
        for n in range(5):
            found = rows(built(keys + [dictionary(pairs, 1, n)]))[20]
            self.assertEqual(found[0], "dictionary")
            self.assertEqual(found[2:], (2 + 2 ** n + 40, tuple(range(20)) + tuple(reversed(range(20)))))

    def test_offsets_and_references_of_all_widths(self):
        for s in range(1, 9):
            for r in range(1, 9):
                with self.subTest(s=s, r=r):
                    file = built([integer(5), text("k"), array([0, 1, 0], r), dictionary([(1, 2)], r)],
                                 offset_width=s, reference_width=r)
                    self.assertEqual([row[3] for row in rows(file)], [(), (), (0, 1, 0), (1, 2)])
                    self.assertEqual(len(file), 8 + 2 + 2 + 1 + 3 * r + 1 + 2 * r + 4 * s + 32)

    def test_any_order_any_top_and_gaps(self):
        objects = [array([1, 2]), integer(1), array([1]), TRUE]
        file = built(objects, 0, order=[3, 1, 0, 2], gaps={3: [99], 1: [0xFF, 0xFF], 2: HEADER}, tail=[0x70])
        self.assertEqual(rows(file), [("list", 14, 3, (1, 2)), ("integer", 12, 2, ()), ("list", 25, 2, (1,)),
                                      ("truth", 9, 1, ())])
        for at in range(4):
            self.assertEqual(top(read(built(objects, at))), at)

    def test_ten_thousand_objects(self):
        file = built([NONE] * 9_999 + [array([9_998], 2)], reference_width=2)
        self.assertEqual(len(read(file)), 10_000)
        self.assertEqual(rows(file)[9_999], ("list", 8 + 9_999, 3, (9_998,)))

    def test_keys_may_be_alike_in_different_dictionaries(self):
        keys = [text("a"), wide([97]), text("b")]
        self.sound(built(keys + [dictionary([(0, 0)]), dictionary([(1, 3), (2, 3)])]))


class TestNoBytes(Case):
    def test_elements_that_are_no_bytes(self):
        for wrong in (256, -1, True, False, None, "a", "", 1.0, [1], (1,), 10 ** 3999, b"a", object()):
            for place in (0, 9, len(FIVE) - 1):
                with self.subTest(wrong=repr(wrong)[:30], place=place):
                    with self.assertRaises(NoBytes) as caught:
                        read(edited(FIVE, place, wrong))
                    self.assertEqual(caught.exception.place, place)

    def test_the_first_one_goes_before_all_faults(self):
        for file, place in (([256], 0), ([0, 256, -1], 1), ([0] * 50 + [None], 50), ([True] * 3, 0)):
            with self.assertRaises(NoBytes) as caught:
                read(file)
            self.assertEqual(caught.exception.place, place)


class TestFrame(Case):
    def test_short(self):
        self.torn([], "short", 0)
        self.torn([98, 112], "short", 2)
        self.torn(built([NONE])[:41], "short", 41)
        self.torn([0] * 41, "short", 41)
        # With 42 bytes the header is looked at.
        self.torn([0] * 42, "header", 0)

    def test_header(self):
        for place in range(8):
            self.torn(edited(FIVE, place, FIVE[place] + 1), "header", place)
            self.torn(edited(FIVE, place, *[1] * (8 - place)), "header", place)

    def test_unused(self):
        for place in range(6):
            self.torn(edited(FIVE, place - 32, 1), "unused", len(FIVE) - 32 + place)
        self.torn(edited(FIVE, -29, 255, 255), "unused", len(FIVE) - 29)

    def test_offsets(self):
        for s in (0, 9, 255):
            self.torn(edited(FIVE, -26, s), "offsets", len(FIVE) - 26)

    def test_references(self):
        for r in (0, 9, 255):
            self.torn(edited(FIVE, -25, r), "references", len(FIVE) - 25)

    def test_count(self):
        for count in (0, 10_001, 2 ** 64 - 1):
            self.torn(edited(FIVE, -24, *number(count, 8)), "count", len(FIVE) - 24)
        body = [0] * 10_001
        self.torn(framed(body, range(8, 10_009)), "count", 8 + 10_001 * 3 + 8)
        self.sound(framed(body, range(8, 10_008)))

    def test_top(self):
        for at in (1, 2, 255, 2 ** 64 - 1):
            self.torn(edited(FIVE, -16, *number(at, 8)), "top", len(FIVE) - 16)
        self.sound(built([NONE, NONE], 1))
        self.torn(built([NONE, NONE], 2), "top", 12 + 16)

    def test_table(self):
        for place in (0, 8, 9, 11, 2 ** 64 - 1):
            self.torn(edited(FIVE, -8, *number(place, 8)), "table", len(FIVE) - 8)
        # A table that ends before the trailer, and one that reaches into it.
        self.torn(edited(built([NONE, NONE], 0), -24, *number(1, 8)), "table", 12 + 24)
        self.torn(edited(built([NONE]), -24, *number(2, 8)), "table", 10 + 24)
        # A table that begins at place 8: there is no object before it.
        self.torn(HEADER + [8, 0] + trailer(1, 1, 2, 0, 8), "table", 10 + 24)

    def test_offset(self):
        for place in (0, 7, 10, 11, 255):
            self.torn(edited(FIVE, 10, place), "offset", 10)
        # The first one of several, at its entry in the table.
        body = NONE * 3
        self.torn(framed(body, [8, 11, 7]), "offset", 12)
        self.torn(framed(body, [8, 9, 7], offset_width=3), "offset", 11 + 6)
        self.torn(framed(body, [8, 2 ** 64 - 1, 9], offset_width=8), "offset", 11 + 8)

    def test_the_order_of_the_faults(self):
        """Each fault of the frame is put into a file that has all later ones, too."""
        file = built([[0x77]])
        faults = [("header", 3, [0]), ("unused", -30, [1]), ("offsets", -26, [0]), ("references", -25, [9]),
                  ("count", -24, [1]), ("top", -16, [0, 0, 0, 0, 0, 0, 0, 1]), ("table", -8, [1])]
        self.torn(file, "marker", 8)
        file = edited(file, 9, 3)
        self.torn(file, "offset", 9)
        for word, place, written in reversed(faults):
            file = edited(file, place, *written)
            self.torn(file, word, place % len(file))


class TestObjects(Case):
    def test_marker(self):
        good = {0x00, 0x08, 0x09, *range(0x10, 0x15), 0x22, 0x23, 0x33, *range(0x40, 0x70), *range(0x80, 0x90),
                *range(0xA0, 0xB0), *range(0xD0, 0xE0)}
        for marker in range(256):
            file = built([NONE, [marker] + [0] * 40])
            with self.subTest(marker):
                if marker not in good:
                    self.torn(file, "marker", 9)
                elif marker & 15 == 15 and marker >> 4 != 8:
                    self.torn(file, "size", 10)
                elif marker in range(0xD1, 0xDF):
                    self.torn(file, "key", 10)
                else:
                    self.sound(file)

    def test_marker_goes_before_end(self):
        self.torn(built([[0x15]]), "marker", 8)
        self.torn(built([[0x24]]), "marker", 8)

    def test_end(self):
        for one in (integer(5, 0), integer(5, 4), uid(1, 16), real([0] * 4), real([0] * 8), date([0] * 8),
                    data([1] * 14), data([1] * 200), text("a"), text("a" * 15), wide([97]), wide([97] * 20),
                    array([0] * 3), array([0] * 30), dictionary([(0, 0)]), dictionary([(0, 0)] * 16)):
            for missing in (1, len(one) - 1):
                with self.subTest(one=one, missing=missing):
                    self.torn(built([NONE, one[:len(one) - missing]]), "end", 9)
        # The bytes of the table are not those of an object, though they are there.
        self.torn(built([data([1, 2, 3])[:-1]], offset_width=8), "end", 8)

    def test_end_with_wide_references(self):
        for r in range(1, 9):
            self.sound(built([NONE, array([0] * 3, r)], reference_width=r))
            self.torn(built([NONE, array([0] * 3, r)[:-1]], reference_width=r), "end", 9)
            self.torn(built([NONE, dictionary([(0, 0)], r)[:-1]], reference_width=r), "end", 9)

    def test_end_at_huge_sizes(self):
        for n, size in ((1, 65535), (2, 2 ** 32 - 1), (3, 2 ** 63 - 1), (4, 2 ** 127 - 1)):
            for digit in (0x4, 0x5, 0x6, 0xA, 0xD):
                self.torn(built([NONE, sized(digit, size, n) + [200] * 60]), "end", 9)

    def test_size(self):
        for digit in (0x4, 0x5, 0x6, 0xA, 0xD):
            marker = digit * 16 + 15
            with self.subTest(marker):
                self.torn(built([NONE, [marker]]), "end", 9)
                for wrong in (0x00, 0x0F, 0x15, 0x22, 0x80, 0xFF):
                    self.torn(built([NONE, [marker, wrong] + [0] * 20]), "size", 10)
                    self.torn(built([NONE, [marker, wrong]]), "size", 10)
                for n in range(5):
                    self.torn(built([NONE, [marker, 0x10 + n] + [0] * (2 ** n - 1)]), "end", 9)
                    self.sound(built([NONE, [marker, 0x10 + n] + [0] * 2 ** n]))
                for n in (3, 4):
                    for size in (-1, -(2 ** 63)):
                        self.torn(built([NONE, [marker] + integer(size, n) + [0] * 60]), "size", 10)
                # Not negative with fewer bytes.
                self.torn(built([NONE, [marker, 0x10, 255]]), "end", 9)
                self.torn(built([NONE, [marker, 0x12, 255, 255, 255, 255]]), "end", 9)
        # A size of 16 bytes that an integer object could not have is no fault of its own.
        self.torn(built([data([], 4)[:2] + number(2 ** 100, 16)]), "end", 8)

    def test_range(self):
        for value in (-(2 ** 63), 2 ** 63, 2 ** 64 - 1):
            self.sound(built([integer(value, 4)]))
        for value in (-(2 ** 63) - 1, 2 ** 64, 2 ** 127 - 1, -(2 ** 127)):
            self.torn(built([NONE, integer(value, 4)]), "range", 9)
        for width in range(8, 17):
            self.sound(built([uid(2 ** 64 - 1, width)]))
        for width in range(9, 17):
            self.torn(built([NONE, uid(2 ** 64, width)]), "range", 9)
            self.torn(built([NONE, uid(256 ** width - 1, width)]), "range", 9)

    def test_ascii(self):
        self.sound(built([text("\x00\x7f")]))
        for size in (1, 14, 15, 100):
            for at in (0, size - 1):
                for octet in (128, 255):
                    file = built([NONE, text("a" * size)])
                    begin = 9 + len(text("a" * size)) - size
                    self.torn(edited(file, begin + at, octet), "ascii", begin + at)
        self.torn(built([[0x53, 97, 128, 255]]), "ascii", 10)
        # Neither the bytes behind a string nor those of other kinds count.
        self.sound(built([text(""), NONE, data([200]), wide([200]), text("a"), uid(200)], gaps={1: [200], 2: [255]}))

    def test_reference(self):
        for r in range(1, 9):
            top_ = 256 ** r - 1
            with self.subTest(r):
                self.sound(built([NONE, array([0] * 20, r)], reference_width=r))
                self.torn(built([NONE, array([0, 2, 3], r)], reference_width=r), "reference", 10 + r)
                self.torn(built([NONE, array([0, 0, top_], r)], reference_width=r), "reference", 10 + 2 * r)
                self.torn(built([NONE, array([0] * 15 + [2], r)], reference_width=r), "reference", 9 + 3 + 15 * r)
                self.torn(built([text("a"), dictionary([(0, 2)], r)], reference_width=r), "reference", 11 + r)
                self.torn(built([text("a"), dictionary([(2, 9)], r)], reference_width=r), "reference", 11)
        # The bytes 0 1 0 0 hold 256 too, but no reference begins there.
        self.sound(built([NONE, TRUE, array([1, 0], 2)], reference_width=2))
        # Bytes of other objects are no references.
        self.sound(built([NONE, array([0]), data([9, 9])]))

    def test_the_first_object_by_number_goes_first(self):
        """Object 0 stands last in the file, and its fault counts."""
        faults = [([0x77], "marker", 0), ([0x12, 0], "end", 0), ([0x4F, 0x20], "size", 1),
                  (integer(2 ** 64, 4), "range", 0), ([0x51, 128], "ascii", 1), ([0xA1, 7], "reference", 1)]
        for one, word, place in faults:
            for other, other_word, _ in faults:
                with self.subTest(word=word, other=other_word):
                    self.torn(built([one, other], 0, order=[1, 0]), word, 8 + len(other) + place)

    def test_two_faults_in_one_object(self):
        # The end of an object goes before what its bytes are.
        self.torn(built([integer(2 ** 64, 4)[:-1]]), "end", 8)
        self.torn(built([[0x53, 128, 128]]), "end", 8)
        self.torn(built([[0xA3, 9, 9]]), "end", 8)
        self.torn(built([[0xAF, 0x13] + [255] * 7]), "end", 8)
        self.torn(built([[0xAF, 0x13] + [255] * 8]), "size", 9)


class TestWebs(Case):
    def test_overlap(self):
        self.torn(framed([0x41, 0x00], [8, 9]), "overlap", 9)
        self.torn(framed([0x41, 0x00], [9, 8]), "overlap", 9)
        self.torn(framed([0x00], [8, 8]), "overlap", 8)
        self.sound(framed([0x41, 0x41, 0x00], [8, 10]))
        # One that holds several others, and one that reaches far.
        self.torn(framed(data([0] * 10), [13, 11, 8, 12]), "overlap", 11)
        self.torn(framed(data([0] * 10) + NONE, [8, 19, 18]), "overlap", 18)
        self.torn(framed([0x00, 0x42, 0x41, 0x08, 0x42, 0, 0], [12, 14, 8, 9, 10]), "overlap", 10)

    def test_overlap_goes_behind_the_faults_of_all_objects(self):
        self.torn(framed([0x41, 0x00, 0x77], [8, 9, 10]), "marker", 10)
        self.torn(framed([0x41, 0x00, 0xA1, 3], [8, 9, 10]), "reference", 11)

    def test_key(self):
        for one in (NONE, TRUE, integer(1), data([97]), wide([233]), text("%"), text("a\n"), uid(1), array([]),
                    dictionary([]), real([0] * 4), date([0] * 8)):
            with self.subTest(one):
                place = 8 + 2 + len(one)
                self.torn(built([text("a"), one, dictionary([(1, 0)])]), "key", place + 1)
                self.torn(built([text("a"), one, dictionary([(0, 0), (1, 0)])]), "key", place + 2)
        for r in range(1, 9):
            file = built([text("a"), NONE, dictionary([(0, 0), (1, 0)], r)], reference_width=r)
            self.torn(file, "key", 11 + 1 + r)
        # The values may be anything, also what is no key.
        self.sound(built([text("a"), NONE, dictionary([(0, 1)])]))
        self.sound(built([text(""), wide([97]), dictionary([(0, 1), (1, 0)])]))

    def test_twice(self):
        self.torn(built([text("a"), dictionary([(0, 0), (0, 0)])]), "twice", 12)
        self.torn(built([text("a"), text("a"), dictionary([(0, 0), (1, 0)])]), "twice", 14)
        self.torn(built([text("a"), wide([97]), dictionary([(0, 0), (1, 0)])]), "twice", 15)
        self.torn(built([text(""), wide([]), dictionary([(0, 0), (1, 0)])]), "twice", 12)
        self.torn(built([text("a", 0), text("a", 4), text("b"), dictionary([(1, 0), (2, 0), (0, 0)])]), "twice", 36)

    def test_key_and_twice_go_by_keys_then_by_dictionaries(self):
        objects = [text("a"), NONE]
        self.torn(built(objects + [dictionary([(0, 0), (0, 0), (1, 0)])]), "twice", 13)
        self.torn(built(objects + [dictionary([(0, 0), (1, 0), (0, 0)])]), "key", 13)
        self.torn(built(objects + [dictionary([(1, 0), (1, 0)])]), "key", 12)
        first = dictionary([(0, 0), (0, 0)])
        second = dictionary([(1, 0)])
        self.torn(built(objects + [first, second], order=[3, 0, 1, 2]), "twice", 16)
        self.torn(built(objects + [second, first], order=[3, 0, 1, 2]), "key", 17)

    def test_ring(self):
        self.torn(built([integer(7), array([1])]), "ring", 10)
        self.torn(built([array([1]), array([0])]), "ring", 8)
        self.torn(built([array([1]), array([2]), array([3]), array([1])]), "ring", 10)
        self.torn(built([text("a"), dictionary([(0, 1)])]), "ring", 10)
        self.torn(built([text("a"), dictionary([(0, 2)]), array([0, 1])]), "ring", 10)
        # Not used, and another one is the top object.
        self.torn(built([NONE, array([1])], 0), "ring", 9)

    def test_the_smallest_number_counts_and_only_what_is_in_a_ring(self):
        # 0 leads to a ring, 1 stands between two rings, 2 and 3 are led to by rings.
        objects = [array([5]), array([4]), NONE, array([2]), array([6, 3]), array([7, 1, 2]), array([4]), array([5])]
        self.torn(built(objects), "ring", 8 + 2 + 2 + 1 + 2)
        self.torn(built(objects, order=[7, 6, 5, 4, 3, 2, 1, 0]), "ring", 8 + 2 + 2 + 4)
        # The place that counts is that of the smallest number, not the smallest place.
        self.torn(built([array([1]), array([0]), array([2])], order=[2, 1, 0]), "ring", 12)

    def test_no_ring(self):
        self.sound(built([array([2, 1]), array([2, 2]), array([3, 3]), NONE], 0))
        self.sound(built([array([1]), array([2]), array([])], 0))

    def test_long_chains_and_long_rings(self):
        file = chain(9_990)
        self.assertLessEqual(len(file), 50_000)
        self.sound(file)
        # The last list refers to the first one, so that all are in the ring.
        objects = [array([9_988], 2)] + [array([at], 2) for at in range(9_988)]
        self.torn(built(objects, reference_width=2), "ring", 8)
        # A ring at the end of a long chain that leads to it, in both orders.
        many = 9_000
        forth = [array([at + 1], 2) for at in range(many - 1)] + [array([many - 1], 2)]
        self.torn(built(forth, 0, reference_width=2), "ring", 8 + 3 * (many - 1))
        back = [array([0], 2)] + [array([at], 2) for at in range(many - 1)]
        self.torn(built(back, reference_width=2), "ring", 8)

    def test_the_order_of_the_faults(self):
        good = [text("a"), NONE]
        ring = array([5])
        twice = dictionary([(0, 0), (0, 0)])
        key = dictionary([(1, 0)])
        self.torn(built(good + [NONE, NONE, NONE, ring]), "ring", 8 + 3 + 3 + 1 - 1)
        self.torn(built(good + [ring[:1] + [2], NONE, twice, key]), "twice", 8 + 3 + 2 + 1 + 2)
        self.torn(built(good + [key, twice, NONE, ring]), "key", 12)
        overlapping = framed(text("a") + twice, [8, 10, 9])
        self.torn(edited(overlapping, 9, 0x00), "overlap", 9)
        self.torn(edited(overlapping, 11, 7), "reference", 11)


class TestFiles(unittest.TestCase):
    """The helper of the tests makes the files of the document's examples."""

    def test_the_example_of_the_document(self):
        self.assertEqual(bytes(FIVE).hex(), "62706c697374303010050800000000000001010000000000000001"
                                            "0000000000000000000000000000000a")
        self.assertEqual(len(built([integer(7), array([0, 0])])), 47)
        self.assertEqual(making.least(255), 1)


if __name__ == "__main__":
    unittest.main()
