"""Point 9: core, as short, the entries of each map in the order of their keys."""

import itertools
import random
import unittest

from helper import bytes_of, core_of, place_of, short_of
from setlines.texts import core

# Keys by their bytes: a quote is before each byte of a word, and in strings
# a blank and ! are before the quote that ends one. + - . / digits, A to Z, _, a to z.
KEYS = ('" "', '"!"', '""', '"A"', '"\\""', '"\\\\"', '"\\n"', '"a b"', '"a!"', '"a"', '"a#"', '"aa"', '"b"', '"~"',
        "+", "+1", "-", "-1", ".", "/", "0", "00", "1", "10", "2", "9", "A", "AA", "Z", "Za", "_", "a", "a+", "a.b",
        "aZ", "a_", "aa", "aaa", "ab", "b", "z")


def map_of(keys):
    return "{" + ",".join([key + ":" + str(len(key)) for key in keys]) + "}"


class Order(unittest.TestCase):
    def test_the_answer_byte_by_byte(self):
        self.assertEqual(core(bytes_of("a")), [1, 97])
        self.assertEqual(core(bytes_of("{ b: c, a: [], } #d")),
                         [10, 123, 97, 58, 91, 93, 44, 98, 58, 99, 125])

    def test_keys_out_of_order(self):
        self.assertEqual(core_of("{b: 1, a: 2}"), "{a:2,b:1}")
        self.assertEqual(core_of("{c: 1, a: 2, b: 3,}"), "{a:2,b:3,c:1}")
        for keys in itertools.permutations("abcde"):
            self.assertEqual(core_of(map_of(keys)), map_of("abcde"))

    def test_one_that_another_begins_with(self):
        for keys in itertools.permutations(("a", "aa", "aaa", "ab", "b")):
            self.assertEqual(core_of(map_of(keys)), map_of(("a", "aa", "aaa", "ab", "b")))
        self.assertEqual(core_of("{10:x,1:y,2:z}"), "{1:y,10:x,2:z}")

    def test_one_that_another_begins_with_whatever_their_values(self):
        # Some bytes of words are before the colon that's behind a key, some after it.
        for byte in "+-./09AZ_az":
            for first, second in itertools.product(("b", '"b"', "[]", "{}", "[b]", "{b:b}"), repeat=2):
                told = "{a:" + first + ",a" + byte + ":" + second + "}"
                self.assertEqual(core_of("{a" + byte + ":" + second + ",a:" + first + "}"), told)
                self.assertEqual(core_of(told), told)

    def test_byte_by_byte_not_by_what_they_mean(self):
        self.assertEqual(core_of("{a:1,B:2,b:3,A:4}"), "{A:4,B:2,a:1,b:3}")
        self.assertEqual(core_of("{9:a,10:b,-1:c,+2:d}"), "{+2:d,-1:c,10:b,9:a}")

    def test_words_and_strings(self):
        self.assertEqual(core_of('{a:1,"b":2,"a":3,b:4}'), '{"a":3,"b":2,a:1,b:4}')
        # The quote that ends a string counts as a byte of its key.
        self.assertEqual(core_of('{"a":1,"a b":2,"a!":3,"a#":4,"":5}'), '{"":5,"a b":2,"a!":3,"a":1,"a#":4}')
        self.assertEqual(core_of('{"a]":1,"a\\\\":2,"a\\n":3,"a\\"":4,"a[":5}'),
                         '{"a[":5,"a\\"":4,"a\\\\":2,"a\\n":3,"a]":1}')

    def test_all_kinds_of_keys_in_one_map(self):
        self.assertEqual(list(KEYS), sorted(KEYS, key=bytes_of))
        self.assertEqual(core_of(map_of(KEYS)), map_of(KEYS))
        self.assertEqual(core_of(map_of(reversed(KEYS))), map_of(KEYS))
        for first, second in itertools.combinations(KEYS, 2):
            self.assertEqual(core_of(map_of((second, first))), map_of((first, second)))

    def test_values_go_with_their_keys_and_count_for_nothing(self):
        self.assertEqual(core_of('{c:a,b:[],a:{},"d":"e"}'), '{"d":"e",a:{},b:[],c:a}')
        self.assertEqual(core_of("{b:a,a:b}"), "{a:b,b:a}")
        self.assertEqual(core_of("{ab:a,a:zz}"), "{a:zz,ab:a}")


class Within(unittest.TestCase):
    def test_rows_keep_their_order(self):
        for text in ("[b,a]", "[b,a,b,a]", '[z,"y",[],{},[x],a]', "[[b,a],[a,b]]", "{k:[c,b,a]}", "[{b:1},{a:2}]"):
            self.assertEqual(core_of(text), text)

    def test_maps_within_maps(self):
        self.assertEqual(core_of("{b:{d:1,c:2},a:{f:{h:3,g:4},e:5}}"), "{a:{e:5,f:{g:4,h:3}},b:{c:2,d:1}}")

    def test_maps_within_rows(self):
        self.assertEqual(core_of("[{b:1,a:2},z,[{d:3,c:4}],y]"), "[{a:2,b:1},z,[{c:4,d:3}],y]")
        self.assertEqual(core_of("{b:[{d:1,c:[2,1]},0],a:[]}"), "{a:[],b:[{c:[2,1],d:1},0]}")

    def test_without_comments_blanks_and_commas_behind_the_last(self):
        text = '#c\n{ "b" : [ 1 , 2 , ] , #d\n\n #e\n "a" : { z : " # " , y : "\\" , \\n" #f\n } , #g\n } #h'
        self.assertEqual(short_of(text), '{"b":[1,2],"a":{z:" # ",y:"\\" , \\n"}}')
        self.assertEqual(core_of(text), '{"a":{y:"\\" , \\n",z:" # "},"b":[1,2]}')

    def test_40_deep(self):
        self.assertEqual(core_of("{b:1,a:" * 40 + "2" + "}" * 40), "{a:" * 40 + "2" + ",b:1}" * 40)
        self.assertEqual(core_of("{b:" * 40 + "2" + ",a:1}" * 40), "{a:1,b:" * 40 + "2" + "}" * 40)
        self.assertEqual(core_of("[z,{b:1,a:" * 20 + "2" + "},y]" * 20),
                         "[z,{a:" * 20 + "2" + ",b:1},y]" * 20)
        self.assertEqual(core_of("[" * 39 + "{b : 1 , #c\na : 2 , }" + "]" * 39), "[" * 39 + "{a:2,b:1}" + "]" * 39)

    def test_41_deep(self):
        for text, place in (("{b:1,a:" * 41 + "2" + "}" * 41, 280), ("[" * 40 + "{b:1,a:2}" + "]" * 40, 40)):
            self.assertEqual(place_of(text), place)
            self.assertEqual(core(bytes_of(text)), [-100 - place])


class Many(unittest.TestCase):
    def test_many_entries(self):
        keys = ["k" + str(number) for number in range(2000)]
        for turn in range(5):
            mixed = list(keys)
            random.Random(turn).shuffle(mixed)
            text = map_of(mixed)
            self.assertLessEqual(len(text), 20000)
            self.assertEqual(core_of(text), map_of(sorted(keys)))
            self.assertEqual(short_of(text), text)

    def test_all_short_keys(self):
        keys = ["".join(signs) for length in (1, 2, 3) for signs in itertools.product("ab.Z", repeat=length)]
        keys += ['"' + key + '"' for key in keys] + ['"' + key + ' "' for key in keys]
        random.Random(7).shuffle(keys)
        self.assertEqual(core_of(map_of(keys)), map_of(sorted(keys, key=bytes_of)))

    def test_20000_bytes(self):
        keys = [format(number, "04x") for number in range(2857)]
        text = map_of(reversed(keys))
        self.assertEqual(len(text), 20000)
        self.assertEqual(core_of(text), map_of(keys))

    def test_20000_bytes_40_deep(self):
        keys = [format(number, "04x") for number in range(2834)]
        text = "{k:" * 39 + map_of(reversed(keys)) + "}" * 39
        text += " " * (20000 - len(text))
        self.assertEqual(len(text), 20000)
        self.assertEqual(core_of(text), "{k:" * 39 + map_of(keys) + "}" * 39)

    def test_long_keys_that_begin_alike(self):
        begin = "a" * 6000
        self.assertEqual(core_of(map_of((begin + "b", begin, begin + "a"))), map_of((begin, begin + "a", begin + "b")))


if __name__ == "__main__":
    unittest.main()
