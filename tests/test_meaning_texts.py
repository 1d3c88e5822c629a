"""Point 2.9 with part 4: what is made of texts has the right form, and what texts mean."""

import unittest

from machine_helpers import SOME, compare
from oneowner.lower import lower
from oneowner.meaning import meaning
from oneowner.mir import is_mir
from oneowner.typed import typed

LIST = "variant list { none, some(int, box list) } "
BUILD = LIST + """
fn build(n: int) -> list {
  let l: list = none;
  while 0 < n { l = some(n, box l); n = n - 1; }
  return l;
}
"""


class TextTest(unittest.TestCase):

    def check(self, text, outs, result=0, inputs=(), word="done", steps=100000, allocators=SOME):
        with self.subTest(text):
            program = lower(typed(text))
            self.assertTrue(is_mir(program))
            result = result if word == "done" else None
            self.assertEqual(repr(meaning(program, inputs, steps)), repr((outs, word, result)))
            compare(self, program, inputs, steps, allocators)

    def main(self, body, *outs, params="", inputs=(), word="done"):
        self.check("record pair { one: int, two: int } " + LIST + "fn tell(x: int) -> int { show x; return x; } "
                   "fn said(x: bool) -> bool { show x; return x; } fn change(a: mut int, b: int) -> int { *a = *a + b; "
                   "return *a; } fn main(" + params + ") -> int { " + body + " return 0; }", outs, inputs=inputs,
                   word=word)

    def test_expressions_from_left_to_right(self):
        self.main("show tell(1) + tell(2) * tell(3);", 1, 2, 3, 7)
        self.main("show tell(1) - tell(2) - tell(3) == tell(4);", 1, 2, 3, 4, False)
        self.main("show said(tell(1) < tell(2)) ; show !said(false);", 1, 2, True, True, False, True)
        self.main("open pair(tell(1), tell(2)) as (a, b); show a * 10 + b;", 1, 2, 12)
        self.main("let a: list = some(tell(1), box some(tell(2), box none)); a = some(tell(3), box a);", 1, 2, 3)
        self.main("show unbox box tell(1);", 1, 1)

    def test_values_ahead_of_the_place_they_are_put_into(self):
        self.main("let v: vec int = vec int; push(v, 1); push(v, 2); v[tell(1)] = tell(5); show v[1];", 5, 1, 5)
        self.main("let w: vec vec int = vec vec int; push(w, vec int); push(w[tell(0)], tell(7)); show w[0][0];", 7, 0,
                  7)
        self.main("let a: int = 1; a = change(mut a, 2) + a; show a;", 6)
        self.main("let a: int = 1; a = a + change(mut a, 2); show a;", 4)
        self.main("let p: pair = pair(1, 2); p.one = change(mut p.one, 5) * 2; show p.one;", 12)

    def test_a_base_ahead_of_its_index(self):
        self.main("let w: vec vec int = vec vec int; push(w, vec int); push(w[0], 3); show w[tell(0)][tell(0)];", 0, 0,
                  3)
        self.main("let v: vec int = vec int; push(v, 0); show v[v[tell(0)]];", 0, 0)

    def test_arithmetic(self):
        self.main("show 0 - 1; show 4294967295 + 2; show 65536 * 65536; show 3 < 2; show 2 < 3; show 2 == 2;",
                  4294967295, 1, 0, False, True, True)

    def test_if_and_while(self):
        self.main("if a < 3 { show 1; } else { show 2; } if b { show 3; }", 1, 3, params="a: int, b: bool",
                  inputs=(2, True))
        self.main("if a < 3 { show 1; } else { show 2; } if b { show 3; }", 2, params="a: int, b: bool",
                  inputs=(3, False))
        self.main("while a < 3 { show a; a = a + 1; } show a;", 0, 1, 2, 3, params="a: int", inputs=(0,))
        self.main("while a < 3 { let b: int = a; while b < 2 { show b; b = b + 1; } a = a + 1; }", 0, 1, 1,
                  params="a: int", inputs=(0,))

    def test_match(self):
        for text, outs in (
            ("let l: list = some(4, box none); match ref l { none { show 0; } some(a, b) { show *a; "
             "match ref **b { none { show 9; } some(c, d) { } } } }", (4, 9)),
            ("let l: list = some(4, box none); match mut l { none { } some(a, b) { *a = 5; "
             "**b = some(6, box none); } } match l { none { } some(a, b) { show a; let r: list = unbox b; "
             "match ref r { none { } some(c, d) { show *c; } } } }",
             (5, 6)),
            ("let l: list = none; match l { none { show 3; } some(a, b) { show a; } }", (3,)),
        ):
            self.main(text, *outs)

    def test_moves_and_boxes(self):
        self.main("let b: box int = box 3; let c: box int = b; *c = *c + 1; show *c; show unbox c;", 4, 4)
        self.main("let b: box pair = box pair(1, 2); (*b).two = 5; open unbox b as (c, d); show c; show d;", 1, 5)
        self.main("let b: box int = box 3; let c: box int = b; show *b;", word="stuck")
        self.main("let v: vec int = vec int; push(v, 1); let w: vec int = v; push(w, 2); show len(w); push(v, 3);", 2,
                  word="stuck")

    def test_references(self):
        self.main("let a: int = 1; let r: ref int = ref a; let s: ref int = r; a = 2; show *r + *s;", 4)
        self.main("let a: int = 1; show change(mut a, 2); show a; let m: mut int = mut a; show change(m, 3); "
                  "*m = *m + 1; show a;", 3, 3, 6, 7)
        self.main("let p: pair = pair(1, 2); let m: mut int = mut p.two; *m = 7; show p.two; show p.one;", 7, 1)
        self.main("let v: vec pair = vec pair; push(v, pair(1, 2)); let m: mut pair = mut v[0]; (*m).one = 8; "
                  "show v[0].one;",
                  8)

    def test_vecs(self):
        self.main("let v: vec int = vec int; while len(v) < 4 { push(v, len(v) * len(v)); } take(v) as a; show a; "
                  "show v[2]; show len(v);", 9, 4, 3)
        self.main("let v: vec int = vec int; show 1; take(v) as a; show a;", 1, word="empty")
        self.main("let v: vec int = vec int; push(v, 0); show v[0]; show v[1];", 0, word="bound")

    def test_par(self):
        self.main("let a: int = 0; let b: int = 0; par { a = tell(1); } { b = tell(2) + a; } show a + b;", 1, 2, 4)
        self.main("par { show 1; par { show 2; } { show 3; } show 4; } { show 5; } show 6;", 1, 2, 3, 4, 5, 6)

    def test_a_name_that_is_used_again(self):
        self.main("if true { let a: box int = box 1; show *a; } let a: bool = true; show a; "
                  "par { let b: int = 2; show b; } { let b: bool = false; show b; }", 1, True, 2, False)

    def test_lists(self):
        text = BUILD + """
        fn sum(l: ref list) -> int {
          let s: int = 0;
          let more: bool = true;
          while more {
            match ref *l { none { more = false; } some(x, rest) { s = s + *x; l = ref **rest; } }
          }
          return s;
        }
        fn reverse(l: list) -> list {
          let done: list = none;
          let more: bool = true;
          while more {
            let now: list = l;
            match now { none { more = false; l = none; } some(x, rest) { done = some(x, box done); l = unbox rest; } }
          }
          return done;
        }
        fn first(l: ref list) -> int { match ref *l { none { } some(x, r) { show *x; } } return 0; }
        fn main(n: int) -> int {
          let l: list = build(n);
          first(ref l);
          let r: list = reverse(l);
          first(ref r);
          return sum(ref r);
        }
        """
        self.check(text, (1, 10), result=55, inputs=(10,))
        self.check(text, (), inputs=(0,))

    def test_values_that_are_nested_far_deeper_than_calls(self):
        text = BUILD + "fn main(n: int) -> int { let l: list = build(n); let v: vec list = vec list; push(v, l); " \
                       "v[0] = none; let b: box list = box build(n); let c: list = unbox b; return n; }"
        self.check(text, (), result=3000, inputs=(3000,), allocators=SOME[:1])

    def test_sorting(self):
        text = """
        fn swap(a: mut vec int, i: int, j: int) -> int {
          let x: int = (*a)[i];
          (*a)[i] = (*a)[j];
          (*a)[j] = x;
          return 0;
        }
        fn sort(v: mut vec int) -> int {
          let i: int = 0;
          while i < len(*v) {
            let j: int = i + 1;
            while j < len(*v) {
              if (*v)[j] < (*v)[i] { swap(v, i, j); }
              j = j + 1;
            }
            i = i + 1;
          }
          return 0;
        }
        fn main() -> int {
          let v: vec int = vec int;
          let x: int = 7;
          while len(v) < 8 { x = x * 1103515245 + 12345; push(v, x); }
          sort(mut v);
          let i: int = 1;
          while i < len(v) { show !(v[i] < v[i - 1]); i = i + 1; }
          return len(v);
        }
        """
        self.check(text, (True,) * 7, result=8)

    def test_functions_that_call_each_other(self):
        text = """
        fn even(n: int) -> bool { let r: bool = true; if 0 < n { r = odd(n - 1); } return r; }
        fn odd(n: int) -> bool { let r: bool = false; if 0 < n { r = even(n - 1); } return r; }
        fn main(n: int) -> bool { return even(n); }
        """
        for number in range(6):
            self.check(text, (), result=number % 2 == 0, inputs=(number,))
        self.check(text, (), result=True, inputs=(98,))
        self.check(text, (), word="steps", inputs=(99,))

    def test_results_that_are_lent(self):
        text = """
        record pair { one: int, two: int }
        fn greater(p: mut pair) -> mut int from p {
          let r: mut int = mut (*p).one;
          if (*p).one < (*p).two { r = mut (*p).two; }
          return r;
        }
        fn main(a: int, b: int) -> int {
          let p: pair = pair(a, b);
          let m: mut int = greater(mut p);
          *m = 0;
          show p.one;
          show p.two;
          return *m;
        }
        """
        self.check(text, (1, 0), inputs=(1, 2))
        self.check(text, (0, 1), inputs=(2, 1))


if __name__ == "__main__":
    unittest.main()
