"""Whole programs as texts, with inputs and with what they show and return."""

BANK = """
record account { owner: int, money: int }
variant entry { nothing, paid(int, int), closed(account) }
fn open_account(all: mut vec account, owner: int, money: int) -> int {
  push(*all, account(owner, money));
  return len(*all) - 1;
}
fn pay(all: mut vec account, one: int, other: int, money: int) -> entry {
  let done: entry = nothing;
  if !((*all)[one].money < money) {
    (*all)[one].money = (*all)[one].money - money;
    (*all)[other].money = (*all)[other].money + money;
    done = paid(one, money);
  }
  return done;
}
fn close(all: mut vec account) -> entry {
  let result: entry = nothing;
  if 0 < len(*all) { take(*all) as last; result = closed(last); }
  return result;
}
fn tell(what: ref entry) -> int {
  match ref *what {
    nothing { show false; }
    paid(a, b) { show *a * 100 + *b; }
    closed(a) { show (*a).money; }
  }
  return 0;
}
fn main(n: int) -> int {
  let all: vec account = vec account;
  let i: int = 0;
  while i < n { open_account(mut all, i, i * 10); i = i + 1; }
  let log: vec entry = vec entry;
  push(log, pay(mut all, 2, 0, 15));
  push(log, pay(mut all, 1, 0, 15));
  push(log, close(mut all));
  i = 0;
  while i < len(log) { tell(ref log[i]); i = i + 1; }
  return all[0].money + all[1].money * 1000;
}
"""

TREE = """
record node { key: int, left: tree, right: tree }
variant tree { leaf, inner(box node) }
fn insert(t: tree, key: int) -> tree {
  let result: tree = leaf;
  match t {
    leaf { result = inner(box node(key, leaf, leaf)); }
    inner(b) {
      open unbox b as (k, l, r);
      if key < k { l = insert(l, key); } else { r = insert(r, key); }
      result = inner(box node(k, l, r));
    }
  }
  return result;
}
fn walk(t: ref tree) -> int {
  let many: int = 0;
  match ref *t {
    leaf { }
    inner(b) {
      many = walk(ref (**b).left) + 1;
      show (**b).key;
      many = many + walk(ref (**b).right);
    }
  }
  return many;
}
fn double(t: mut tree) -> int {
  match mut *t {
    leaf { }
    inner(b) {
      (**b).key = (**b).key * 2;
      let n: int = 0;
      let m: int = 0;
      let left: mut tree = mut (**b).left;
      let right: mut tree = mut (**b).right;
      par { n = double(left); } { m = double(right); }
    }
  }
  return 0;
}
fn main(n: int) -> int {
  let t: tree = leaf;
  let x: int = 7;
  while 0 < n { x = x * 5 + 3; if 60 < x { x = x - 57; } t = insert(t, x); n = n - 1; }
  double(mut t);
  return walk(ref t);
}
"""

SUM = """
fn part(v: ref vec int, from_here: int, to: int) -> int {
  let s: int = 0;
  while from_here < to { s = s + (*v)[from_here]; from_here = from_here + 1; }
  return s;
}
fn sum(v: ref vec int, low: int, high: int) -> int {
  let one: int = 0;
  let other: int = 0;
  if high - low < 3 { one = part(v, low, high); } else {
    let middle: int = low;
    while middle + middle < low + high { middle = middle + 1; }
    par { one = sum(v, low, middle); } { other = sum(v, middle, high); }
  }
  return one + other;
}
fn main(n: int) -> int {
  let v: vec int = vec int;
  while len(v) < n { push(v, len(v) * len(v)); }
  return sum(ref v, 0, n);
}
"""

SIDES = """
record two { one: vec int, two: box vec int }
fn fill(v: mut vec int, n: int) -> int {
  while 0 < n { push(*v, n); n = n - 1; }
  return len(*v);
}
fn main(n: int) -> int {
  let t: two = two(vec int, box vec int);
  let a: int = 0;
  let b: int = 0;
  let round: int = 0;
  while round < 3 {
    par { a = a + fill(mut t.one, n); } { b = b + fill(mut *t.two, n + 1); par { b = b * 2; } { } }
    par { let x: box int = box a; a = unbox x + 1; } { let y: box int = box b; *y = *y + 1; b = unbox y; }
    round = round + 1;
  }
  show a;
  show b;
  let first: mut vec int = mut t.one;
  par { push(*first, a); } { push(*t.two, b); }
  open t as (one, more);
  let rest: vec int = unbox more;
  show len(one);
  show len(rest);
  show one[len(one) - 1] + rest[len(rest) - 1];
  return one[0] * 1000 + rest[0];
}
"""

LENT = """
record pair { one: int, two: int }
fn greater(p: mut pair) -> mut int from p {
  let less: bool = (*p).one < (*p).two;
  let r: mut int = mut (*p).one;
  if less { r = mut (*p).two; }
  return r;
}
fn longest(a: ref vec int, b: ref vec int) -> ref vec int from a, b {
  let r: ref vec int = a;
  if len(*a) < len(*b) { r = b; }
  return r;
}
fn last(v: ref vec int) -> ref int from v { return ref (*v)[len(*v) - 1]; }
fn main(a: int, b: int, more: bool) -> int {
  let p: pair = pair(a, b);
  let i: int = 0;
  while i < 3 { let m: mut int = greater(mut p); *m = *m - 2; i = i + 1; }
  show p.one;
  show p.two;
  let v: vec int = vec int;
  let w: vec int = vec int;
  push(v, 1);
  push(w, 2);
  push(w, 3);
  if more { push(v, 4); push(v, 5); }
  let r: ref int = last(longest(ref v, ref w));
  let s: int = *r;
  push(v, s);
  let t: ref int = last(ref v);
  return *t;
}
"""

QUEUE = """
variant job { work(int), wait(bool, box job), end }
fn make(n: int) -> job {
  let j: job = end;
  while 0 < n {
    if n == 2 { j = wait(true, box j); } else { j = wait(n < 3, box j); }
    n = n - 1;
  }
  return j;
}
fn deep(j: ref job) -> int {
  let n: int = 0;
  match ref *j { work(a) { n = *a; } wait(b, c) { show *b; n = 1 + deep(ref **c); } end { } }
  return n;
}
fn cut(j: mut job, at: int) -> int {
  match mut *j {
    work(a) { }
    wait(b, c) { *b = !*b; if at == 0 { **c = work(40); } else { cut(mut **c, at - 1); } }
    end { }
  }
  return 0;
}
fn main(n: int, at: int) -> int {
  let all: vec job = vec job;
  push(all, make(n));
  push(all, make(1));
  cut(mut all[0], at);
  all[1] = work(2);
  let sum: int = 0;
  let i: int = 0;
  while i < len(all) { sum = sum + deep(ref all[i]); i = i + 1; }
  take(all) as j;
  match j { work(a) { sum = sum * 10 + a; } wait(b, c) { show b; } end { } }
  return sum;
}
"""

MANY = """
record P { a: int, b: box int }
variant L { Nil, Cons(int, box L) }
fn inc(m: mut int, n: int) -> int { *m = *m + n; return *m * 3; }
fn suml(l: ref L) -> int {
  let s: int = 0;
  match ref *l { Nil { } Cons(h, t) { s = *h + suml(ref **t); } }
  return s;
}
fn pick(p: ref P, q: ref P, c: int) -> ref int from p, q {
  let r: ref int = ref (*p).a;
  if c < 3 { r = ref *(*q).b; }
  return r;
}
fn inner(p: mut P) -> mut int from p { return mut *(*p).b; }
fn grow(v: mut vec int, n: int) -> int { push(*v, n); return len(*v); }
fn keep(p: P, c: bool) -> box int { open p as (x, y); if c { *y = *y + x; } return y; }
fn told(n: int) -> int { show n; return n; }
fn main(x0: int, x1: int) -> int {
  let w0: int = 0;
  while w0 < 2 {
    w0 = w0 + 1;
    let l0: L = Cons(2, box Cons(x0, box Nil));
    show suml(ref l0);
    match mut l0 { Nil { } Cons(h0, t0) { *h0 = 7; } }
    let l1: L = Cons(2, box Cons(x0, box Nil));
    show suml(ref l1);
    match mut l1 { Nil { } Cons(h1, t1) { *h1 = 7; } }
    let p: P = P(x1, box 3);
    inc(inner(mut p), x0);
    let r: ref int = pick(ref p, ref p, w0 + 1);
    show *r;
    let v: vec int = vec int;
    show told(grow(mut v, unbox keep(p, w0 < 2)));
  }
  return x0;
}
"""

# Each with the values of main's params, and the triple of what is shown, the word and the result.
RUNS = (
    (BANK, (3,), ((215, False, 5), "done", 10015)), (BANK, (5,), ((215, False, 40), "done", 10015)),
    (BANK, (0,), ((), "bound", None)), (BANK, (2,), ((), "bound", None)),
    (TREE, (0,), ((), "done", 0)), (TREE, (1,), ((76,), "done", 1)), (TREE, (3,), ((76, 272, 1252), "done", 3)),
    (SUM, (0,), ((), "done", 0)), (SUM, (5,), ((), "done", 30)), (SUM, (12,), ((), "done", 506)),
    (SIDES, (0,), ((3, 29, 1, 4, 32), "done", 3001)), (SIDES, (2,), ((15, 73, 7, 10, 88), "done", 2003)),
    (LENT, (5, 4, True), ((1, 2), "done", 5)), (LENT, (1, 9, False), ((1, 3), "done", 3)),
    (QUEUE, (3, 1), ((False, False), "done", 442)), (QUEUE, (0, 0), ((), "done", 22)),
    (QUEUE, (6, 9), ((False, False, True, True, True, True), "done", 82)), (QUEUE, (200, 150), ((), "steps", None)),
    (MANY, (5, 80), ((7, 7, 8, 1, 1, 7, 7, 80, 1, 1), "done", 5)),
    (MANY, (0, 4), ((2, 2, 3, 1, 1, 2, 2, 4, 1, 1), "done", 0)),
)
