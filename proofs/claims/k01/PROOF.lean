import PyProof.Rows.All
import Wide.All
import OpenK.AllK
import Wide.FinOn
import HandS.ForMost
import HandS.StrMore
import HandS.IsInst
import HandS.ForExc
import HandS.ExcInit
import HandS.ExcField
import HandS.FStr
import KE.KExcIs
import HandS.ClsMeth
import KE.RegKIsAll
import HandS.ExcIs
import KE.KTypeName
import HandS.Codes
import PySem.Challenge.RW_oneowner_k01_programs_with_a_bad_place
set_option Elab.async false
set_option linter.all false
set_option maxRecDepth 100000
set_option maxHeartbeats 4000000
namespace Ow
open PySem L2
/-- the text with these codes -/
def S (l : List Nat) : Str := ⟨l.toArray⟩
theorem S_len (l : List Nat) : (S l).length = l.length := by simp [S, Str.length]
theorem S_cps (l : List Nat) : (S l).cps.toList = l := by simp [S]
theorem S_app (l m : List Nat) : S l ++ S m = S (l ++ m) := by
  apply Str.ext'
  simp [S, Str.cps_append]
theorem S_inj {l m : List Nat} (h : S l = S m) : l = m := by
  have := congrArg (fun z : Str => z.cps.toList) h
  simpa [S] using this
theorem S_of (z : Str) : z = S z.cps.toList := by cases z; simp [S]
theorem nl_eq : ("\n" : Str) = ⟨#[10]⟩ := by decide +kernel
/-- length of what stands behind the last newline -/
def tl (l : List Nat) : Nat := (l.reverse.takeWhile (fun c => c != 10)).length
theorem tl_nl (l : List Nat) : tl (l ++ [10]) = 0 := by simp [tl]
theorem takeWhile_all {p : Nat → Bool} : ∀ {w : List Nat}, (∀ c ∈ w, p c = true) → ∀ l, (w ++ l).takeWhile p = w ++ l.takeWhile p
  | [], _, l => rfl
  | a :: r, h, l => by
    rw [List.cons_append, List.takeWhile_cons, if_pos (h a (by simp)), takeWhile_all (fun c hc => h c (by simp [hc]))]
    rfl
theorem tl_app (l w : List Nat) (h : 10 ∉ w) : tl (l ++ w) = tl l + w.length := by
  unfold tl
  rw [List.reverse_append, takeWhile_all]
  · simp; omega
  · intro c hc
    have : c ∈ w := by simpa using hc
    simp
    rintro rfl
    exact h this
theorem tl_le (l : List Nat) : tl l ≤ l.length := by
  unfold tl
  have := (List.takeWhile_sublist (fun c => c != 10) (l := l.reverse)).length_le
  simpa using this
def rowOf (l : List Nat) : Int := ((1 + l.count 10 : Nat) : Int)
def colOf (l : List Nat) : Int := ((1 + tl l : Nat) : Int)
/-! ### what Python's methods tell of them -/
theorem at_iff1 (l : List Nat) (c i : Nat) : StrLaws.At (S l) ⟨#[c]⟩ (S l).length i ↔ l[i]? = some c := by
  have h := StrLaws.subAt_one (S l) c i
  rw [S_cps] at h
  exact h
theorem chain_count (l : List Nat) (c : Nat) : ∀ (cuts : List Nat) (a f : Nat), StrLaws.ChainG (S l) ⟨#[c]⟩ (S l).length a cuts f → (∀ k, f ≤ k → ¬ StrLaws.At (S l) ⟨#[c]⟩ (S l).length k) → (l.drop a).count c = cuts.length
  | [], a, f, h, hn => by
    have e : f = a := h
    subst e
    show (l.drop f).count c = 0
    rw [List.count_eq_zero]
    intro hm
    obtain ⟨j, hj⟩ := List.getElem?_of_mem hm
    rw [List.getElem?_drop] at hj
    exact hn (f + j) (by omega) ((at_iff1 l c _).mpr hj)
  | d :: r, a, f, ⟨h1, h2, h3, h4⟩, hn => by
    have ih := chain_count l c r (d + 1) f h4 hn
    have hd := (at_iff1 l c d).mp h2
    obtain ⟨hlt, hde⟩ := List.getElem?_eq_some_iff.mp hd
    have e1 : l.drop a = (l.drop a).take (d - a) ++ c :: l.drop (d + 1) := by
      have e2 : (l.drop a).drop (d - a) = c :: l.drop (d + 1) := by
        rw [List.drop_drop, show a + (d - a) = d by omega, List.drop_eq_getElem_cons hlt, hde]
      rw [← e2, List.take_append_drop]
    rw [e1, List.count_append, List.count_cons_self, ih]
    have z : List.count c ((l.drop a).take (d - a)) = 0 := by
      rw [List.count_eq_zero]
      intro hm
      obtain ⟨j, hj⟩ := List.getElem?_of_mem hm
      have hl : j < d - a := by
        have h5 := (List.getElem?_eq_some_iff.mp hj).1
        rw [List.length_take] at h5
        omega
      rw [List.getElem?_take_of_lt hl, List.getElem?_drop] at hj
      exact h3 (a + j) (by omega) (by omega) ((at_iff1 l c _).mpr hj)
    rw [z, List.length_cons]
    omega
theorem count_nl (l : List Nat) : Txt.count (S l) "\n" = ((l.count 10 : Nat) : Int) := by
  rw [nl_eq]
  unfold Txt.count
  obtain ⟨f, h1, h2⟩ := StrLaws.occ_tight (S l) ⟨#[10]⟩ (by decide)
  have := chain_count l 10 _ 0 f h1 h2
  rw [List.drop_zero] at this
  rw [this]
theorem tl_at {l : List Nat} {i : Nat} (h : l[i]? = some 10) (hn : ∀ k, i < k → l[k]? ≠ some 10) : tl l + i + 1 = l.length := by
  obtain ⟨hlt, hde⟩ := List.getElem?_eq_some_iff.mp h
  have e : l = (l.take i ++ [10]) ++ l.drop (i + 1) := by
    rw [List.append_assoc, List.singleton_append]
    have : l.drop i = 10 :: l.drop (i + 1) := by rw [List.drop_eq_getElem_cons hlt, hde]
    rw [← this, List.take_append_drop]
  have hm : 10 ∉ l.drop (i + 1) := by
    intro hm
    obtain ⟨j, hj⟩ := List.getElem?_of_mem hm
    rw [List.getElem?_drop] at hj
    exact hn (i + 1 + j) (by omega) hj
  have e2 : tl l = (l.drop (i + 1)).length := by
    have h6 := tl_app (l.take i ++ [10]) (l.drop (i + 1)) hm
    rw [← e, tl_nl] at h6
    omega
  rw [e2, List.length_drop]
  omega
theorem tl_none {l : List Nat} (h : 10 ∉ l) : tl l = l.length := by
  have := tl_app [] l h
  simpa [tl] using this
theorem rfind_nl (l : List Nat) : Txt.rfind (S l) "\n" = (l.length : Int) - (tl l : Int) - 1 := by
  rw [nl_eq]
  rcases PyProof.Rows.rfind_whole (S l) ⟨#[10]⟩ with ⟨h1, h2⟩ | ⟨i, h1, h2, h3⟩
  · have : 10 ∉ l := by
      intro hm
      obtain ⟨j, hj⟩ := List.getElem?_of_mem hm
      exact h2 j ((at_iff1 l 10 j).mpr hj)
    rw [h1, tl_none this]
    omega
  · have := tl_at ((at_iff1 l 10 i).mp h2) fun k hk => fun q => h3 k hk ((at_iff1 l 10 k).mpr q)
    rw [h1]
    omega
end Ow
/-! Words of my own over the hand layer. -/
namespace Ow
open PySem L2
theorem same_upd {H : Hp} {p : Addr} {o : HO} (h : H p = none) : Same H (upd H p o) := fun b x e => by
  rw [upd_ne (ne_of_none e h)]
  exact e
/-- a def of the module that keeps a promise, and all that a call asks of it -/
def Has (P : Program) (w : World) (K : PySem.W.Frag) (mg : Str → Option Value) (base : Heap) (k : Nat) (x : Str) (ps : List Str) (sp : Sp) : Prop :=
  ∃ f fd, FnOk P w K mg base CX0 k f fd ps sp ∧ PySem.W.keepIn K (.ref f) = true ∧ Binds K fd ps [] ∧ mg x = some (.ref f)
/-- a def of the module stands where its name says -/
def Here (K : PySem.W.Frag) (mg : Str → Option Value) (x : Str) (st : Stmt) (ps : List Str) : Prop :=
  ∃ f fd, Fun K x x st f fd ∧ mg x = some (.ref f) ∧ Binds K fd ps []
theorem Has.mk' {P : Program} {w : World} {K : PySem.W.Frag} {mg : Str → Option Value} {base : Heap} {k : Nat} {x : Str} {st : Stmt} {ps : List Str} {sp : Sp} (h : Here K mg x st ps)
    (ok : ∀ f fd, Fun K x x st f fd → FnOk P w K mg base CX0 k f fd ps sp) : Has P w K mg base k x ps sp := by
  obtain ⟨f, fd, F, m, b⟩ := h
  exact ⟨f, fd, ok f fd F, F.kp, b, m⟩
theorem rv_str {x : Str} {t : Tok} : RelV (.str x) (.str x t) := ⟨_, rfl⟩
theorem rv_int {x : Int} {t : Tok} : RelV (.int x) (.int x t) := ⟨_, rfl⟩
theorem rv_ref {a : Addr} : RelV (.ref a) (.ref a) := rfl
/-- a text at module level; a number; a tuple -/
def GStr (mg : Str → Option Value) (x z : Str) : Prop := ∃ t, mg x = some (.str z t)
def GInt (mg : Str → Option Value) (x : Str) (n : Int) : Prop := ∃ t, mg x = some (.int n t)
def GTup (K : PySem.W.Frag) (mg : Str → Option Value) (x : Str) (xs : List V) : Prop := ∃ a, mg x = some (.ref a) ∧ ∀ H, SqT K H a xs
theorem for_str {x : Str} {g : TG} {tb : TS} {D : Ends} {σ : St} {H : Hp} (Pv : Nat → St → Hp → Prop) (h0 : Pv 0 σ H)
    (hs : ∀ i c σ H, x.cps.toList[i]? = some c → Pv i σ H → g (.str ⟨#[c]⟩) σ H fun σ2 H2 => tb { D with nx := Pv (i + 1), ct := Pv (i + 1), bk := D.nx } σ2 H2) (hd : ∀ σ H, Pv x.cps.size σ H → D.nx σ H) :
    ∃ W : Nat → Nat → St → Hp → Prop, (∃ m, W 0 m σ H) ∧ ∀ i m σ H, W i m σ H →
      ((Its x).stop i H ∧ D.nx σ H) ∨ ((Its x).go i H ∧ ∃ N : St → Hp → Prop, (∀ σ' H', N σ' H' → ∃ m', m' < m ∧ W (i + 1) m' σ' H') ∧ ∀ v H', (Its x).yld i H v H' → g v σ H' fun σ2 H2 => tb { D with nx := N, ct := N, bk := D.nx } σ2 H2) := by
  refine ⟨fun i m σ H => m = x.cps.size - i ∧ i ≤ x.cps.size ∧ Pv i σ H, ⟨x.cps.size, by simp, Nat.zero_le _, h0⟩, ?_⟩
  rintro i m σ H ⟨rfl, hi, p⟩
  by_cases hlt : i < x.cps.size
  · refine .inr ⟨hlt, Pv (i + 1), fun σ' H' p' => ⟨x.cps.size - (i + 1), by omega, rfl, hlt, p'⟩, fun v H' y => ?_⟩
    obtain ⟨rfl, c, hc, rfl⟩ := y
    exact hs i c σ _ (by rw [← hc]; simp) p
  · have e : i = x.cps.size := by omega
    subst e
    exact .inl ⟨Nat.le_refl _, hd σ H p⟩
theorem inV_str (x : Str) (xs : List Str) : inV (.str x) (xs.map V.str) = decide (x ∈ xs) := by
  unfold inV
  induction xs with
  | nil => rfl
  | cons y r ih =>
    rw [List.map_cons, List.any_cons, ih]
    show ((y == x) || decide (x ∈ r)) = _
    by_cases h : x = y
    · subst h; simp
    · have : (y == x) = false := by simp; exact fun e => h e.symm
      rw [this]; simp [h]
theorem flat_strs (xs : List Str) : (xs.map V.str).all flatV = true := by
  induction xs with
  | nil => rfl
  | cons y r ih => rw [List.map_cons, List.all_cons, ih]; rfl
/-- written texts, all of a display -/
def strsOf : List Expr → Option (List Str)
  | [] => some []
  | .Constant (.str x) _ _ :: r => (strsOf r).map (x :: ·)
  | _ => none
def tStrs (xs : List Str) : TA := fun _ H Q => Q (xs.map V.str) H
theorem pa_strs {X : Cx} : ∀ {es : List Expr} {xs : List Str}, strsOf es = some xs → PA X es (tStrs xs)
  | [], xs, h => by
    have e : [] = xs := Option.some.inj h
    subst e
    exact pa_nil
  | e :: r, xs, h => by
    unfold strsOf at h
    split at h
    · rename_i he; cases he
    · rename_i x _ _ r' he
      cases he
      obtain ⟨ys, h1, h2⟩ := Option.map_eq_some_iff.mp h
      subst h2
      exact pa_cons pe_str (pa_strs h1)
    · cases h
end Ow
/-! What the tokens of a text are, as plain mathematics. -/
namespace Ow
open PySem L2
def letters : List Nat := [97,98,99,100,101,102,103,104,105,106,107,108,109,110,111,112,113,114,115,116,117,118,119,120,121,122,65,66,67,68,69,70,71,72,73,74,75,76,77,78,79,80,81,82,83,84,85,86,87,88,89,90]
def digits : List Nat := [48,49,50,51,52,53,54,55,56,57]
def isL (c : Nat) : Bool := decide (c ∈ letters)
def isD (c : Nat) : Bool := decide (c ∈ digits)
def isW (c : Nat) : Bool := isL c || isD c || decide (c = 95)
def kws : List Str := ["record", "variant", "fn", "let", "open", "as", "match", "ref", "mut", "if", "else", "while", "show", "push", "take", "par", "return", "true", "false", "box", "unbox", "vec", "len", "int", "bool", "from"]
def signs : List (List Nat) := [[61,61],[45,62],[123],[125],[40],[41],[91],[93],[44],[59],[58],[46],[61],[43],[45],[42],[60],[33]]
/-- a word ends here -/
def Bd (s : List Nat) : Prop := ∀ c r, s = c :: r → isW c = false
def NumOk (w : List Nat) : Prop := (∀ c ∈ w, isD c = true) ∧ ¬ (1 < w.length ∧ w[0]? = some 48) ∧ w.length ≤ 10 ∧ ∃ n : Int, PySem.intText? (S w) = some n ∧ n ≤ 4294967295
inductive TokW : Str → List Nat → List Nat → Prop
  | word (c : Nat) (r s : List Nat) : isL c = true → (∀ x ∈ r, isW x = true) → Bd s → TokW (if S (c :: r) ∈ kws then "keyword" else "name") (c :: r) s
  | num (c : Nat) (r s : List Nat) : isL c = false → isD c = true → NumOk (c :: r) → Bd s → TokW "number" (c :: r) s
  | sign (i c : Nat) (r s : List Nat) : isL c = false → isD c = false → c ≠ 10 → c ≠ 32 → c ≠ 35 → signs[i]? = some (c :: r) → (∀ j x, j < i → signs[j]? = some x → ¬ x <+: (c :: r) ++ s) → TokW "sign" (c :: r) s
abbrev Tk := Str × Str × Int × Int
inductive Toks : List Nat → List Nat → List Tk → Prop
  | fin (pre : List Nat) : Toks pre [] [("end", "", rowOf pre, colOf pre)]
  | nl {pre s : List Nat} {ts : List Tk} : Toks (pre ++ [10]) s ts → Toks pre (10 :: s) ts
  | sp {pre s : List Nat} {ts : List Tk} : Toks (pre ++ [32]) s ts → Toks pre (32 :: s) ts
  | cm {pre s : List Nat} (c : List Nat) {ts : List Tk} : 10 ∉ c → (s = [] ∨ ∃ r, s = 10 :: r) → Toks (pre ++ 35 :: c) s ts → Toks pre (35 :: (c ++ s)) ts
  | tk {pre s : List Nat} {k : Str} {w : List Nat} {ts : List Tk} : TokW k w s → Toks (pre ++ w) s ts → Toks pre (w ++ s) ((k, S w, rowOf pre, colOf pre) :: ts)
theorem TokW.ne {k : Str} {w s : List Nat} (h : TokW k w s) : w ≠ [] := by cases h <;> simp
theorem isW10 : isW 10 = false := by decide
theorem TokW.no10 {k : Str} {w s : List Nat} (h : TokW k w s) : 10 ∉ w := by
  cases h with
  | word c r s h1 h2 h3 =>
    intro hm
    rcases List.mem_cons.mp hm with rfl | hm
    · exact absurd h1 (by decide)
    · exact absurd (h2 _ hm) (by decide)
  | num c r s h0 h1 h2 h3 =>
    intro hm
    exact absurd (h2.1 _ hm) (by decide)
  | sign i c r s h0 h1 h2 h3 h4 h5 h6 =>
    have : ∀ x ∈ signs, 10 ∉ x := by decide
    exact this _ (List.mem_of_getElem? h5)
theorem rowOf_app {l w : List Nat} (h : 10 ∉ w) : rowOf (l ++ w) = rowOf l := by
  unfold rowOf
  rw [List.count_append, List.count_eq_zero.mpr h]
  rfl
theorem rowOf_nl (l : List Nat) : rowOf (l ++ [10]) = rowOf l + 1 := by
  unfold rowOf
  rw [List.count_append]
  show ((1 + (l.count 10 + 1) : Nat) : Int) = _
  omega
end Ow
namespace Ow
open PySem L2
def topS (i : Nat) : Stmt := PySem.Challenge.pw_oneowner_k01_programs_with_a_bad_place.main.body.getD i (.Pass ⟨0, 0, 0, 0⟩)
abbrev s_tokens : Stmt := topS 14
theorem sc_tokens : FnScope ["text", "found", "at", "row", "row_begin", "char", "token"] ["text"] (defScope s_tokens) := ⟨rfl, rfl, rfl, by decide +kernel, rfl, by decide +kernel, by decide +kernel⟩
abbrev s_comment_end : Stmt := topS 15
theorem sc_comment_end : FnScope ["text", "at", "newline"] ["text", "at"] (defScope s_comment_end) := ⟨rfl, rfl, rfl, by decide +kernel, rfl, by decide +kernel, by decide +kernel⟩
abbrev s_token_at : Stmt := topS 16
theorem sc_token_at : FnScope ["text", "at", "row", "column", "word"] ["text", "at", "row", "column"] (defScope s_token_at) := ⟨rfl, rfl, rfl, by decide +kernel, rfl, by decide +kernel, by decide +kernel⟩
abbrev s_word_at : Stmt := topS 17
theorem sc_word_at : FnScope ["text", "at", "end"] ["text", "at"] (defScope s_word_at) := ⟨rfl, rfl, rfl, by decide +kernel, rfl, by decide +kernel, by decide +kernel⟩
abbrev s_is_within_word : Stmt := topS 18
theorem sc_is_within_word : FnScope ["char"] ["char"] (defScope s_is_within_word) := ⟨rfl, rfl, rfl, by decide +kernel, rfl, by decide +kernel, by decide +kernel⟩
abbrev s_is_number : Stmt := topS 19
theorem sc_is_number : FnScope ["word", "char"] ["word"] (defScope s_is_number) := ⟨rfl, rfl, rfl, by decide +kernel, rfl, by decide +kernel, by decide +kernel⟩
abbrev s__law_mix : Stmt := topS 21
theorem sc__law_mix : FnScope ["cell", "k", "low"] ["cell", "k"] (defScope s__law_mix) := ⟨rfl, rfl, rfl, by decide +kernel, rfl, by decide +kernel, by decide +kernel⟩
abbrev s__law_stream : Stmt := topS 22
theorem sc__law_stream : FnScope ["script", "most", "row", "k", "rest", "j"] ["script", "most"] (defScope s__law_stream) := ⟨rfl, rfl, rfl, by decide +kernel, rfl, by decide +kernel, by decide +kernel⟩
abbrev s__law_pick : Stmt := topS 23
theorem sc__law_pick : FnScope ["draws", "many", "at", "number"] ["draws", "many"] (defScope s__law_pick) := ⟨rfl, rfl, rfl, by decide +kernel, rfl, by decide +kernel, by decide +kernel⟩
abbrev s__law_good : Stmt := topS 24
theorem sc__law_good : FnScope ["draws", "words"] ["draws"] (defScope s__law_good) := ⟨rfl, rfl, rfl, by decide +kernel, rfl, by decide +kernel, by decide +kernel⟩
abbrev s__law_bad : Stmt := topS 25
theorem sc__law_bad : FnScope ["draws", "signs", "words"] ["draws"] (defScope s__law_bad) := ⟨rfl, rfl, rfl, by decide +kernel, rfl, by decide +kernel, by decide +kernel⟩
abbrev s__law_between : Stmt := topS 26
theorem sc__law_between : FnScope ["draws"] ["draws"] (defScope s__law_between) := ⟨rfl, rfl, rfl, by decide +kernel, rfl, by decide +kernel, by decide +kernel⟩
abbrev s__law_told : Stmt := topS 27
theorem sc__law_told : FnScope ["text", "e"] ["text"] (defScope s__law_told) := ⟨rfl, rfl, rfl, by decide +kernel, rfl, by decide +kernel, by decide +kernel⟩
abbrev s_law : Stmt := topS 28
theorem sc_law : FnScope ["script", "draws", "text", "many", "k", "turn", "kind", "word", "row", "column", "rest"] ["script"] (defScope s_law) := ⟨rfl, rfl, rfl, by decide +kernel, rfl, by decide +kernel, by decide +kernel⟩
abbrev s_TextError_init : Stmt := inClass (topS 2) 0
theorem sc_TextError_init : FnScope ["self", "row", "column"] ["self", "row", "column"] (defScope s_TextError_init) := ⟨rfl, rfl, rfl, by decide +kernel, rfl, by decide +kernel, by decide +kernel⟩
end Ow
namespace Ow
open PySem PySem.Spec PyProof.Rows L2
section
variable {P : Program} {w : World} {K : PySem.W.Frag} {mg : Str → Option Value} {base : Heap}
theorem cut_mid (pre wd s : List Nat) : cutS (S (pre ++ wd ++ s)) (some (pre.length : Int)) (some ((pre.length + wd.length : Nat) : Int)) = S wd := by
  unfold cutS
  rw [S_cps, S_len, HT.sIx_nat, HT.sIx_nat]
  have e : (pre ++ wd ++ s).length = pre.length + (wd.length + s.length) := by simp [Nat.add_assoc]
  rw [e, show min (pre.length + wd.length) (pre.length + (wd.length + s.length)) = pre.length + wd.length by omega,
    show min pre.length (pre.length + (wd.length + s.length)) = pre.length by omega,
    show pre.length + wd.length - pre.length = wd.length by omega, List.append_assoc, List.drop_left, List.take_left]
  rfl
/-! ### is_within_word -/
def sp_is_within_word : Sp := fun vs H Q _ => ∃ c : Nat, vs = [.str ⟨#[c]⟩] ∧ Q (.bl (isW c)) H
theorem ok_is_within_word {f : Addr} {fd : FuncData} (F : Fun K "is_within_word" "is_within_word" s_is_within_word f fd) (gL : GStr mg "LETTERS" (S letters)) (gD : GStr mg "DIGITS" (S digits)) :
    FnOk P w K mg base CX0 1 f fd ["char"] sp_is_within_word := by
  obtain ⟨tL, c_LETTERS⟩ := gL
  obtain ⟨tD, c_DIGITS⟩ := gD
  refine F.ok sc_is_within_word (fun vs H Q E h => ?_) (fun cdv A outer s H vs Q E hr h => ?_)
  · obtain ⟨c, rfl, _⟩ := h; rfl
  · obtain ⟨c, rfl, q⟩ := h
    refine ⟨_, (pss_one (ps_ret (pe_or (pe_cmpR op_in_sign (pv 0) (pe_glob rfl c_LETTERS rv_str) rfl) (pe_or (pe_cmpR op_in_sign (pv 0) (pe_glob rfl c_DIGITS rv_str) rfl) (pe_one (pe_cmpR op_eq (pv 0) pe_str (nomark _))))))), ?_⟩
    refine ⟨_, rfl, c, S letters, rfl, rfl, _, rfl, ?_⟩
    rw [S_cps]
    refine ite2 (fun h1 => ?_) (fun h1 => ?_)
    · have : isW c = true := by unfold isW isL; rw [h1]; rfl
      rw [this] at q; exact q
    refine ⟨_, rfl, c, S digits, rfl, rfl, _, rfl, ?_⟩
    rw [S_cps]
    refine ite2 (fun h2 => ?_) (fun h2 => ?_)
    · have : isW c = true := by unfold isW isD; rw [h2]; simp
      rw [this] at q; exact q
    refine ⟨_, rfl, rfl, ?_⟩
    have e : isW c = decide (V.str ⟨#[c]⟩ = V.str "_") := by
      unfold isW isL isD
      rw [Bool.eq_false_iff.mpr h1, Bool.eq_false_iff.mpr h2, Bool.false_or, Bool.false_or]
      have e2 : ("_" : Str) = ⟨#[95]⟩ := by decide +kernel
      rw [e2]
      by_cases hc : c = 95
      · subst hc; simp
      · simp [hc]
    rw [e] at q
    exact q
/-! ### word_at -/
def sp_word_at : Sp := fun vs H Q _ => ∃ pre wd s : List Nat, vs = [.str (S (pre ++ wd ++ s)), .int pre.length] ∧ (pre ++ wd ++ s).length ≤ 1000000 ∧ (∀ c ∈ wd, isW c = true) ∧ Bd s ∧ Q (.str (S wd)) H
theorem ok_word_at {f : Addr} {fd : FuncData} (F : Fun K "word_at" "word_at" s_word_at f fd) (hW : Has P w K mg base 1 "is_within_word" ["char"] sp_is_within_word) (z_len : mg "len" = none) :
    FnOk P w K mg base CX0 2 f fd ["text", "at"] sp_word_at := by
  obtain ⟨f1, fd1, G_is_within_word, k_is_within_word, b_is_within_word, g_is_within_word⟩ := hW
  refine F.ok sc_word_at (fun vs H Q E h => ?_) (fun cdv A outer s H vs Q E hr h => ?_)
  · obtain ⟨pre, wd, s, rfl, _⟩ := h; rfl
  · obtain ⟨pre, wd, s, rfl, hlen, hw, hb, q⟩ := h
    have hl : (S (pre ++ wd ++ s)).length ≤ sizeLine := by rw [S_len]; exact Nat.le_trans hlen (by decide)
    refine ⟨_, (pss_cons (ps_set (i := 2) sc_word_at.nd rfl (.inl rfl) (pv 1))
      (pss_cons (ps_while PassesOwn.never (PW.pt (pw_and (pt_cmpR op_lt (pv 2) (pe_callB call_len_str (by rfl) z_len PySem.boot_len (pa_cons (pv 0) pa_nil)) (nomark _)) (pw_and1 (pt_val (pe_call G_is_within_word (hr.mono (by decide)) (by rfl) g_is_within_word k_is_within_word b_is_within_word .nil pass0 (pa_cons (pe_ix ix_str (pv 0) (pv 2) (fun _ _ => rfl)) pa_nil))))))
        (pss_one (ps_aug (i := 2) sc_word_at.nd rfl (.inl rfl) pe_int ip_add)))
      (pss_one (ps_ret (pe_slice sl_str (pv 0) (po_some (pv 1)) (po_some (pv 2))))))), ?_⟩
    refine ⟨_, rfl, ?_⟩
    refine ⟨fun m σ H1 => ∃ j : Nat, m + j = wd.length ∧ H1 = H ∧ σ = [some (.str (S (pre ++ wd ++ s))), some (.int pre.length), some (.int ((pre.length + j : Nat) : Int))], ⟨wd.length, 0, rfl, rfl, rfl⟩, ?_⟩
    rintro m σ H1 ⟨j, hj, rfl, rfl⟩
    refine ⟨_, rfl, _, rfl, _, rfl, hl, _, _, rfl, rfl, _, rfl, ?_⟩
    rw [S_len]
    by_cases h1 : pre.length + j < (pre ++ wd ++ s).length
    · rw [decide_eq_true (by omega : ((pre.length + j : Nat) : Int) < (((pre ++ wd ++ s).length : Nat) : Int))]
      refine iteT ?_
      have hg : atI (S (pre ++ wd ++ s)).cps.toList ((pre.length + j : Nat) : Int) = some ((pre ++ wd ++ s)[pre.length + j]) := by
        rw [S_cps]
        exact (atI_nat (List.getElem?_eq_getElem h1))
      refine ⟨_, rfl, _, rfl, _, _, _, rfl, rfl, hl, hg, _, rfl, _, rfl, ?_⟩
      by_cases h2 : j < wd.length
      · have e2 : (pre ++ wd ++ s)[pre.length + j] = wd[j] := by
          rw [List.getElem_append_left (by simp; omega), List.getElem_append_right (by omega)]
          congr 1; omega
        rw [e2, hw _ (List.getElem_mem h2)]
        refine iteT ?_
        refine ⟨fun σ' H' => ∃ m', m' < m ∧ ∃ j : Nat, m' + j = wd.length ∧ H' = H1 ∧ σ' = [some (.str (S (pre ++ wd ++ s))), some (.int pre.length), some (.int ((pre.length + j : Nat) : Int))], fun σ' H' h => h, ?_⟩
        refine ⟨_, rfl, _, _, rfl, rfl, m - 1, by omega, j + 1, by omega, rfl, rfl⟩
      · have e3 : j = wd.length := by omega
        have e2 : ∃ r, s = (pre ++ wd ++ s)[pre.length + j] :: r := by
          rw [List.getElem_append_right (by simp; omega)]
          have h5 : 0 < s.length := by simp at h1; omega
          cases s with
          | nil => simp at h5
          | cons c r => exact ⟨r, by simp [e3]⟩
        obtain ⟨r, e2⟩ := e2
        rw [hb _ _ e2]
        refine iteF ?_
        refine ⟨_, rfl, _, rfl, _, rfl, _, rfl, _, rfl, _, rfl, hl, ?_⟩
        rw [e3]
        rw [cut_mid pre wd s]
        exact q
    · rw [decide_eq_false (by omega : ¬ ((pre.length + j : Nat) : Int) < (((pre ++ wd ++ s).length : Nat) : Int))]
      refine iteF ?_
      have e3 : j = wd.length := by simp at h1; omega
      have e5 : s = [] := by
        cases s with
        | nil => rfl
        | cons c r => simp at h1; omega
      subst e5
      refine ⟨_, rfl, _, rfl, _, rfl, _, rfl, _, rfl, _, rfl, hl, ?_⟩
      rw [e3]
      have e4 : cutS (S (pre ++ wd ++ [])) (some (pre.length : Int)) (some ((pre.length + wd.length : Nat) : Int)) = S wd := cut_mid pre wd []
      rw [e4]
      exact q
end
end Ow
namespace Ow
open PySem PySem.Spec PyProof.Rows L2
section
variable {P : Program} {w : World} {K : PySem.W.Frag} {mg : Str → Option Value} {base : Heap}
/-! ### is_number -/
def sp_is_number : Sp := fun vs H Q _ => ∃ wd : List Nat, vs = [.str (S wd)] ∧ wd ≠ [] ∧ NumOk wd ∧ Q (.bl true) H
theorem ok_is_number {f : Addr} {fd : FuncData} (F : Fun K "is_number" "is_number" s_is_number f fd) (gD : GStr mg "DIGITS" (S digits)) (gL : GInt mg "GREATEST_LENGTH" 10) (gW : GInt mg "GREATEST_WORD" 4294967295) (z_len : mg "len" = none) (z_int : mg "int" = none) :
    FnOk P w K mg base CX0 1 f fd ["word"] sp_is_number := by
  obtain ⟨tD, c_DIGITS⟩ := gD
  obtain ⟨tL, c_GREATEST_LENGTH⟩ := gL
  obtain ⟨tW, c_GREATEST_WORD⟩ := gW
  refine F.ok sc_is_number (fun vs H Q E h => ?_) (fun cdv A outer s H vs Q E hr h => ?_)
  · obtain ⟨c, rfl, _⟩ := h; rfl
  · obtain ⟨wd, rfl, hne, ⟨hd, h0, hl, n, hn, hb⟩, q⟩ := h
    have hlen : (S wd).length ≤ sizeLine := by rw [S_len]; exact Nat.le_trans hl (by decide)
    refine ⟨_, (pss_cons (ps_for PassesOwn.never rfl (pi_str (pv 0)) (pg_name (i := 1) sc_is_number.nd rfl (.inl rfl))
        (pss_one (ps_if (pt_cmpR op_notIn_sign (pv 1) (pe_glob rfl c_DIGITS rv_str) rfl)
          (pss_one (ps_ret pe_bl))
          pss_nil)))
      (pss_cons (ps_if (PW.pt (pw_and (pt_cmpR op_gt (pe_callB call_len_str (by rfl) z_len PySem.boot_len (pa_cons (pv 0) pa_nil)) pe_int (nomark _)) (pw_and1 (pt_cmpR op_eq (pe_ix ix_str (pv 0) pe_int (fun _ _ => rfl)) pe_str (nomark _)))))
        (pss_one (ps_ret pe_bl))
        pss_nil)
      (pss_one (ps_ret (pe_and (pe_cmpR op_le (pe_callB call_len_str (by rfl) z_len PySem.boot_len (pa_cons (pv 0) pa_nil)) (pe_glob rfl c_GREATEST_LENGTH rv_int) (nomark _)) (pe_one (pe_cmpR op_le (pe_callTy call_int_str (by rfl) z_int (by decide +kernel) (pa_cons (pv 0) pa_nil)) (pe_glob rfl c_GREATEST_WORD rv_int) (nomark _)))))))), ?_⟩
    refine ⟨_, rfl, _, rfl, for_str (fun i σ H1 => ∃ y, σ = [some (.str (S wd)), y] ∧ H1 = H) ⟨_, rfl, rfl⟩ ?_ ?_⟩
    · rintro i c σ H1 hc ⟨y, rfl, rfl⟩
      refine ⟨_, rfl, c, S digits, rfl, rfl, _, rfl, ?_⟩
      have hm : c ∈ wd := by rw [S_cps] at hc; exact List.mem_of_getElem? hc
      have h1 : decide (c ∈ digits) = true := hd c hm
      rw [S_cps, h1]
      refine iteF ?_
      exact ⟨_, rfl, rfl⟩
    · rintro σ H1 ⟨y, rfl, rfl⟩
      refine ⟨_, rfl, _, rfl, hlen, _, _, rfl, rfl, _, rfl, ?_⟩
      rw [S_len]
      have fin : tRet (tAndV (tOp (rI0 fun i j => .bl (decide (i ≤ j))) (tCB (fun xs H Q => ∃ z, xs = [.str z] ∧ z.length ≤ sizeLine ∧ Q (.int z.length) H) (tCons (tVar 0) tNil)) (tC (.int 10))) (tOp (rI0 fun i j => .bl (decide (i ≤ j))) (tCB (fun xs H Q => ∃ a n, xs = [.str a] ∧ PySem.intText? a = some n ∧ a.length ≤ 640 ∧ Q (.int n) H) (tCons (tVar 0) tNil)) (tC (.int 4294967295)))) { nx := fun _ H' => Q .non H', rt := Q } [some (.str (S wd)), y] H1 := by
        refine ⟨_, rfl, _, rfl, hlen, _, _, rfl, rfl, _, rfl, ?_⟩
        rw [S_len, decide_eq_true (by omega : ((wd.length : Nat) : Int) ≤ 10)]
        refine iteT ?_
        refine ⟨_, rfl, _, n, rfl, hn, by rw [S_len]; omega, _, _, rfl, rfl, ?_⟩
        show Q (.bl (decide (n ≤ 4294967295))) H1
        rw [decide_eq_true hb]
        exact q
      by_cases h1 : 1 < wd.length
      · rw [decide_eq_true (by omega : (1 : Int) < ((wd.length : Nat) : Int))]
        refine iteT ?_
        have hg : atI (S wd).cps.toList (0 : Int) = some (wd[0]'(by omega)) := by
          rw [S_cps]; exact atI_nat (j := 0) (List.getElem?_eq_getElem (by omega))
        refine ⟨_, rfl, _, _, _, rfl, rfl, hlen, hg, rfl, _, rfl, ?_⟩
        have hz : ¬ wd[0]'(by omega) = 48 := fun e => h0 ⟨h1, by rw [List.getElem?_eq_getElem (by omega), e]⟩
        have e2 : ("0" : Str) = ⟨#[48]⟩ := by decide +kernel
        rw [e2, decide_eq_false (fun e => hz (by injection e with e; injection e with e; simpa using e))]
        refine iteF ?_
        exact fin
      · rw [decide_eq_false (by omega : ¬ (1 : Int) < ((wd.length : Nat) : Int))]
        refine iteF ?_
        exact iteF fin
/-! ### comment_end -/
def sp_comment_end : Sp := fun vs H Q _ => ∃ pre c s : List Nat, vs = [.str (S (pre ++ c ++ s)), .int pre.length] ∧ (pre ++ c ++ s).length ≤ 1000000 ∧ 10 ∉ c ∧ (s = [] ∨ ∃ r, s = 10 :: r) ∧ Q (.int ((pre.length + c.length : Nat) : Int)) H
theorem find_nl (pre c s : List Nat) (h : 10 ∉ c) (hs : s = [] ∨ ∃ r, s = 10 :: r) : Txt.find3 (S (pre ++ c ++ s)) "\n" (pre.length : Int) = if s = [] then -1 else ((pre.length + c.length : Nat) : Int) := by
  rw [nl_eq]
  have ef : PySem.fromIndex (S (pre ++ c ++ s)).length (pre.length : Int) = pre.length := by
    rw [S_len]
    unfold PySem.fromIndex
    rw [if_neg (by omega)]
    omega
  have hg : ∀ v, v < (S (pre ++ c ++ s)).length → (S (pre ++ c ++ s)).cps.getD v 0 = 10 → (pre ++ c ++ s)[v]? = some 10 := fun v h1 h2 => by
    have := StrLaws.getElem?_of_getD h1 h2
    rwa [S_cps] at this
  have hc : ∀ v, pre.length ≤ v → v < pre.length + c.length → (pre ++ c ++ s)[v]? ≠ some 10 := fun v h1 h2 h3 => by
    rw [List.getElem?_append_left (by simp; omega), List.getElem?_append_right h1] at h3
    exact h (List.mem_of_getElem? h3)
  rcases StrLaws.find3_spec (S (pre ++ c ++ s)) 10 (pre.length : Int) with ⟨h1, h2⟩ | ⟨k, h1, h2, h3, h4, h5⟩
  · rw [ef] at h2
    rcases hs with rfl | ⟨r, rfl⟩
    · rw [if_pos rfl]; exact h1
    · exfalso
      refine h2 (pre.length + c.length) (by omega) (by rw [S_len]; simp) ?_
      refine StrLaws.getD_of_getElem? ?_
      rw [S_cps, List.getElem?_append_right (by simp)]
      simp
  · rw [ef] at h2 h5
    have h6 := hg k h3 h4
    have h7 : ¬ k < pre.length + c.length := fun h8 => hc k h2 h8 h6
    rcases hs with rfl | ⟨r, rfl⟩
    · rw [S_len] at h3; simp at h3; omega
    · rw [if_neg (by simp), h1]
      have h9 : ¬ pre.length + c.length < k := fun h8 => by
        refine h5 (pre.length + c.length) (by omega) h8 (StrLaws.getD_of_getElem? ?_)
        rw [S_cps, List.getElem?_append_right (by simp)]
        simp
      have : k = pre.length + c.length := by omega
      rw [this]
theorem ok_comment_end {f : Addr} {fd : FuncData} (F : Fun K "comment_end" "comment_end" s_comment_end f fd) (z_len : mg "len" = none) :
    FnOk P w K mg base CX0 1 f fd ["text", "at"] sp_comment_end := by
  refine F.ok sc_comment_end (fun vs H Q E h => ?_) (fun cdv A outer s H vs Q E hr h => ?_)
  · obtain ⟨_, _, _, rfl, _⟩ := h; rfl
  · obtain ⟨pre, c, s, rfl, hl, hc, hs, q⟩ := h
    have hlen : (S (pre ++ c ++ s)).length ≤ sizeLine := by rw [S_len]; exact Nat.le_trans hl (by decide)
    refine ⟨_, (pss_cons (ps_set (i := 2) sc_comment_end.nd rfl (.inl rfl) (pe_bm PySem.F.plainAttrs_str PySem.F.slot_str_find PySem.F.type_str_find mt_find3 (pv 0) (pa_cons pe_str (pa_cons (pv 1) pa_nil))))
      (pss_cons (ps_if (pt_cmpR op_lt (pv 2) pe_int (nomark _))
        (pss_one (ps_ret (pe_callB call_len_str (by rfl) z_len PySem.boot_len (pa_cons (pv 0) pa_nil))))
        pss_nil)
      (pss_one (ps_ret (pv 2))))), ?_⟩
    refine ⟨_, rfl, rfl, _, rfl, _, _, _, rfl, rfl, ?_⟩
    rw [find_nl pre c s hc hs]
    rcases hs with rfl | ⟨r, rfl⟩
    · rw [if_pos rfl]
      refine ⟨_, rfl, _, _, rfl, rfl, _, rfl, iteT ?_⟩
      refine ⟨_, rfl, _, rfl, hlen, ?_⟩
      rw [S_len]
      simpa using q
    · rw [if_neg (by simp)]
      refine ⟨_, rfl, _, _, rfl, rfl, _, rfl, ?_⟩
      rw [decide_eq_false (by omega)]
      exact iteF ⟨_, rfl, q⟩
end
end Ow
namespace Ow
open PySem PySem.Spec PyProof.Rows L2
/-! ### is_number, both answers -/
def numB (w : List Nat) : Bool := w.all isD && (!(decide (1 < w.length) && decide (w[0]? = some 48)) && (decide (w.length ≤ 10) && (match PySem.intText? (S w) with | some n => decide (n ≤ 4294967295) | none => false)))
/-- int(word) has a value where it is asked -/
def numS (w : List Nat) : Bool := !(w.all isD && (!(decide (1 < w.length) && decide (w[0]? = some 48)) && decide (w.length ≤ 10))) || (PySem.intText? (S w)).isSome
section
variable {P : Program} {w : World} {K : PySem.W.Frag} {mg : Str → Option Value} {base : Heap}
def sp_is_numberX : Sp := fun vs H Q _ => ∃ wd : List Nat, vs = [.str (S wd)] ∧ wd ≠ [] ∧ wd.length ≤ 1000000 ∧ numS wd = true ∧ Q (.bl (numB wd)) H
theorem ok_is_numberX {f : Addr} {fd : FuncData} (F : Fun K "is_number" "is_number" s_is_number f fd) (gD : GStr mg "DIGITS" (S digits)) (gL : GInt mg "GREATEST_LENGTH" 10) (gW : GInt mg "GREATEST_WORD" 4294967295) (z_len : mg "len" = none) (z_int : mg "int" = none) :
    FnOk P w K mg base CX0 1 f fd ["word"] sp_is_numberX := by
  obtain ⟨tD, c_DIGITS⟩ := gD
  obtain ⟨tL, c_GREATEST_LENGTH⟩ := gL
  obtain ⟨tW, c_GREATEST_WORD⟩ := gW
  refine F.ok sc_is_number (fun vs H Q E h => ?_) (fun cdv A outer s H vs Q E hr h => ?_)
  · obtain ⟨c, rfl, _⟩ := h; rfl
  · obtain ⟨wd, rfl, hne, hwl, hs, q⟩ := h
    have hlen : (S wd).length ≤ sizeLine := by rw [S_len]; exact Nat.le_trans hwl (by decide)
    refine ⟨_, (pss_cons (ps_for PassesOwn.never rfl (pi_str (pv 0)) (pg_name (i := 1) sc_is_number.nd rfl (.inl rfl))
        (pss_one (ps_if (pt_cmpR op_notIn_sign (pv 1) (pe_glob rfl c_DIGITS rv_str) rfl)
          (pss_one (ps_ret pe_bl))
          pss_nil)))
      (pss_cons (ps_if (PW.pt (pw_and (pt_cmpR op_gt (pe_callB call_len_str (by rfl) z_len PySem.boot_len (pa_cons (pv 0) pa_nil)) pe_int (nomark _)) (pw_and1 (pt_cmpR op_eq (pe_ix ix_str (pv 0) pe_int (fun _ _ => rfl)) pe_str (nomark _)))))
        (pss_one (ps_ret pe_bl))
        pss_nil)
      (pss_one (ps_ret (pe_and (pe_cmpR op_le (pe_callB call_len_str (by rfl) z_len PySem.boot_len (pa_cons (pv 0) pa_nil)) (pe_glob rfl c_GREATEST_LENGTH rv_int) (nomark _)) (pe_one (pe_cmpR op_le (pe_callTy call_int_str (by rfl) z_int (by decide +kernel) (pa_cons (pv 0) pa_nil)) (pe_glob rfl c_GREATEST_WORD rv_int) (nomark _)))))))), ?_⟩
    refine ⟨_, rfl, _, rfl, for_str (fun i σ H1 => ∃ y, σ = [some (.str (S wd)), y] ∧ H1 = H ∧ ∀ j, j < i → ∀ c, wd[j]? = some c → isD c = true) ⟨_, rfl, rfl, fun _ h => absurd h (Nat.not_lt_zero _)⟩ ?_ ?_⟩
    · rintro i c σ H1 hc ⟨y, rfl, rfl, hd⟩
      refine ⟨_, rfl, c, S digits, rfl, rfl, _, rfl, ?_⟩
      rw [S_cps] at hc
      rw [S_cps]
      by_cases h1 : isD c = true
      · rw [show decide (c ∈ digits) = true from h1]
        refine iteF ⟨_, rfl, rfl, fun j hj c' hc' => ?_⟩
        by_cases e : j = i
        · subst e; rw [hc] at hc'; cases hc'; exact h1
        · exact hd j (by omega) c' hc'
      · have h1' : isD c = false := Bool.eq_false_iff.mpr h1
        rw [show decide (c ∈ digits) = false from h1']
        refine iteT ?_
        have e : numB wd = false := by
          unfold numB
          have : wd.all isD = false := by
            rw [← Bool.not_eq_true, List.all_eq_true]
            intro h
            exact h1 (h c (List.mem_of_getElem? hc))
          rw [this]; rfl
        rw [e] at q
        exact q
    · rintro σ H1 ⟨y, rfl, rfl, hd⟩
      have hall : wd.all isD = true := by
        rw [List.all_eq_true]
        intro c hc
        obtain ⟨j, hj⟩ := List.getElem?_of_mem hc
        exact hd j (by have := (List.getElem?_eq_some_iff.mp hj).1; simpa [S] using this) c hj
      refine ⟨_, rfl, _, rfl, hlen, _, _, rfl, rfl, _, rfl, ?_⟩
      rw [S_len]
      have fin : ¬ (1 < wd.length ∧ wd[0]? = some 48) → tRet (tAndV (tOp (rI0 fun i j => .bl (decide (i ≤ j))) (tCB (fun xs H Q => ∃ z, xs = [.str z] ∧ z.length ≤ sizeLine ∧ Q (.int z.length) H) (tCons (tVar 0) tNil)) (tC (.int 10))) (tOp (rI0 fun i j => .bl (decide (i ≤ j))) (tCB (fun xs H Q => ∃ a n, xs = [.str a] ∧ PySem.intText? a = some n ∧ a.length ≤ 640 ∧ Q (.int n) H) (tCons (tVar 0) tNil)) (tC (.int 4294967295)))) { nx := fun _ H' => Q .non H', rt := Q } [some (.str (S wd)), y] H1 := by
        intro h0
        have e0 : (decide (1 < wd.length) && decide (wd[0]? = some 48)) = false := by
          rw [← Bool.decide_and]; exact decide_eq_false h0
        refine ⟨_, rfl, _, rfl, hlen, _, _, rfl, rfl, _, rfl, ?_⟩
        rw [S_len]
        by_cases hl : wd.length ≤ 10
        · rw [decide_eq_true (by omega : ((wd.length : Nat) : Int) ≤ 10)]
          refine iteT ?_
          have hsome : (PySem.intText? (S wd)).isSome = true := by
            unfold numS at hs
            rw [hall, e0, decide_eq_true hl] at hs
            simpa using hs
          obtain ⟨n, hn⟩ := Option.isSome_iff_exists.mp hsome
          refine ⟨_, rfl, _, n, rfl, hn, by rw [S_len]; omega, _, _, rfl, rfl, ?_⟩
          have e : numB wd = decide (n ≤ 4294967295) := by
            unfold numB
            rw [hall, e0, decide_eq_true hl, hn]
            rfl
          rw [e] at q
          exact q
        · rw [decide_eq_false (by omega : ¬ ((wd.length : Nat) : Int) ≤ 10)]
          refine iteF ?_
          have e : numB wd = false := by
            unfold numB
            rw [decide_eq_false hl]
            simp
          rw [e] at q
          exact q
      by_cases h1 : 1 < wd.length
      · rw [decide_eq_true (by omega : (1 : Int) < ((wd.length : Nat) : Int))]
        refine iteT ?_
        have hg : atI (S wd).cps.toList (0 : Int) = some (wd[0]'(by omega)) := by
          rw [S_cps]; exact atI_nat (j := 0) (List.getElem?_eq_getElem (by omega))
        refine ⟨_, rfl, _, _, _, rfl, rfl, hlen, hg, rfl, _, rfl, ?_⟩
        have e2 : ("0" : Str) = ⟨#[48]⟩ := by decide +kernel
        rw [e2]
        by_cases hz : wd[0]'(by omega) = 48
        · rw [hz, decide_eq_true rfl]
          refine iteT ?_
          have e : numB wd = false := by
            unfold numB
            have h48 : wd[0]? = some 48 := by rw [List.getElem?_eq_getElem (by omega), hz]
            rw [decide_eq_true h1, decide_eq_true h48]
            simp
          rw [e] at q
          exact q
        · rw [decide_eq_false (fun e => hz (by injection e with e; injection e with e; simpa using e))]
          refine iteF (fin fun h => hz ?_)
          have := h.2
          rw [List.getElem?_eq_getElem (by omega)] at this
          exact Option.some.inj this
      · rw [decide_eq_false (by omega : ¬ (1 : Int) < ((wd.length : Nat) : Int))]
        refine iteF ?_
        exact iteF (fin fun h => h1 h.1)
end
end Ow
namespace Ow
open PySem PySem.Spec PyProof.Rows L2
def tupV (k : Str) (wd : List Nat) (r c : Int) : List V := [.str k, .str (S wd), .int r, .int c]
def longs : List Str := [S [61, 61], S [45, 62]]
def shorts : List Nat := [123, 125, 40, 41, 91, 93, 44, 59, 58, 46, 61, 43, 45, 42, 60, 33]
theorem cut_two (pre rest : List Nat) : cutS (S (pre ++ rest)) (some (pre.length : Int)) (some ((pre.length : Int) + 2)) = S (rest.take 2) := by
  unfold cutS
  rw [S_cps, S_len, HT.sIx_nat, show ((pre.length : Int) + 2) = ((pre.length + 2 : Nat) : Int) by omega, HT.sIx_nat]
  have e : (pre ++ rest).length = pre.length + rest.length := by simp
  rw [e, show min pre.length (pre.length + rest.length) = pre.length by omega, List.drop_left]
  by_cases h : 2 ≤ rest.length
  · rw [show min (pre.length + 2) (pre.length + rest.length) - pre.length = 2 by omega]; rfl
  · rw [show min (pre.length + 2) (pre.length + rest.length) - pre.length = rest.length by omega, List.take_length, List.take_of_length_le (by omega)]; rfl
theorem sign_two {i : Nat} {x : List Nat} (h : signs[i]? = some x) : (i < 2 ∧ S x ∈ longs ∧ x.length = 2) ∨ (2 ≤ i ∧ ∃ c ∈ shorts, x = [c]) := by
  have hi : i < 18 := by
    have := (List.getElem?_eq_some_iff.mp h).1
    simpa [signs] using this
  have d : ∀ j ∈ List.range 18, (match signs[j]? with | some x => (decide (j < 2) && (decide (x = [61, 61]) || decide (x = [45, 62]))) || (decide (2 ≤ j) && match x with | [c] => shorts.contains c | _ => false) | none => true) = true := by decide
  have := d i (List.mem_range.mpr hi)
  rw [h] at this
  simp only [Bool.or_eq_true, Bool.and_eq_true, decide_eq_true_eq] at this
  rcases this with ⟨h1, h2⟩ | ⟨h1, h2⟩
  · refine .inl ⟨h1, ?_, ?_⟩
    · rcases h2 with rfl | rfl <;> simp [longs]
    · rcases h2 with rfl | rfl <;> rfl
  · refine .inr ⟨h1, ?_⟩
    split at h2
    · rename_i c
      exact ⟨c, by simpa using h2, rfl⟩
    · cases h2
theorem not_long {rest : List Nat} (h1 : ¬ [61, 61] <+: rest) (h2 : ¬ [45, 62] <+: rest) : S (rest.take 2) ∉ longs := by
  intro h
  simp only [longs, List.mem_cons, List.not_mem_nil, or_false] at h
  rcases h with h | h
  · exact h1 (by rw [← S_inj h]; exact List.take_prefix ..)
  · exact h2 (by rw [← S_inj h]; exact List.take_prefix ..)
theorem not_short {c : Nat} {r : List Nat} (h : ∀ x ∈ signs, ¬ x <+: c :: r) : decide (c ∈ shorts) = false := by
  refine decide_eq_false fun hc => ?_
  have d : ∀ c ∈ shorts, [c] ∈ signs := by decide
  exact h _ (d c hc) ⟨r, rfl⟩
theorem four {a b c d : V} : [a, b, c, d].length ≤ sizeLine := by show 4 ≤ sizeLine; decide
end Ow
/-! Errors with an __init__ that calls the __init__ of a base class of the program; several clauses 'except X as n'. -/
namespace Ow
open PySem PySem.Spec PyProof.Rows L2
/-! ### several clauses with names -/
/-- one clause: its class, its slot, its suite -/
abbrev Clause := Value × Nat × (Addr → Value → Option Addr → TS)
def wAll (K : PySem.W.Frag) (Wout : WX) (D : Ends) : List Clause → WX
  | [] => Wout
  | (c, i, ts) :: r => wAs K c i ts (wAll K Wout D r) D
inductive Clauses (X : Cx) : List ExceptHandler → List Clause → Prop
  | nil : Clauses X [] []
  | more {x n : Str} {c : Value} {i : Nat} {ts : Addr → Value → Option Addr → TS} {st : Stmt} {sts : List Stmt} {p1 p2 : Pos} {hs : List ExceptHandler} {cs : List Clause} (hi : X.N[i]? = some n) (hl : X.env.kindOf n = some .local) (hc : Names X x c)
      (hsu : ∀ (a : Addr) (oe : Obj) (cls : Value) (d : Option Addr) (pn : List (Addr × Obj)), Zc cls d oe → (∃ vs, oe.data = .fields vs) → PSs (X.suite a ((a, oe) :: pn)) (st :: sts) (ts a cls d)) (r : Clauses X hs cs) :
      Clauses X (.ExceptHandler (some (.Name x p1)) (some n) (st :: sts) p2 :: hs) ((c, i, ts) :: cs)
section
variable {X : Cx}
/-- the clauses' lookup, where the exception has landed -/
theorem clauses_run {Wout : WX} {D : Ends} {B : Heap} {sI s' : Shared} {h3 : Heap} {pins : List (Addr × Obj)} {σ : L2.St} {H : Hp} {a : Addr} {cls : Value} {d : Option Addr} (hst : X.stack = X.env :: X.outer) (hfm : X.env.frame = some X.env.locals) (hN : X.N.Nodup) (tk : Takes X Wout)
    (J : Inv X pins σ H sI) (nb : ∀ b o, sI.heap.get? b = some o → b ∉ frs (X.env :: X.outer) → B.get? b = some o) (up : sI.heap.UpToSlots h3) (fl : HandSPX.FlyingZ B (X.env :: X.outer) a (Zc cls d) h3) (na : H a = none) (eos : s'.os = sI.os) (bare : AllBare s'.gens) :
    ∀ {hs : List ExceptHandler} {cs : List Clause}, Clauses X hs cs → wAll X.K Wout D cs cls d σ H → wpAny (model X.prog X.w) X.A (handleBy (.ref a) X.env hs) (SP X pins D) X.xe { s' with heap := h3 } := by
  have nb' : ∀ b o, sI.heap.get? b = some o → b ∉ frs X.stack → B.get? b = some o := by rw [hst]; exact nb
  have lands : ∀ {h4 : Heap}, B.StaysIn h4 → sI.heap.UpToSlots h4 → Inv X pins σ H { s' with heap := h4 } := fun b u => J.landed nb' b u eos bare
  have J3 := lands fl.1 up
  obtain ⟨oe3, vs3, g3, z3, f3⟩ := fl.there
  have aframe : a ∉ frs (X.env :: X.outer) := fun hm => by
    obtain ⟨_, o', e', hnf⟩ := fl.2.2.1.mem hm
    have ee := g3.symm.trans e'
    cases ee
    exact hnf _ f3
  have aL : a ≠ X.env.locals := fun z => aframe (List.mem_filterMap.mpr ⟨_, .head _, by rw [hfm, z]⟩)
  have aF : a ∉ X.fs := fun hm => by
    obtain ⟨v, hv, q⟩ := List.mem_filterMap.mp hm
    exact aframe (List.mem_filterMap.mpr ⟨v, .tail _ hv, q⟩)
  have ty : PySem.W.Looks (model X.prog X.w) h3 (typeOf (.ref a)) cls := fun _ _ _ _ k q => wpAny_typeOf_ref (k _ _ g3) (by rw [z3.1]; exact q)
  intro hs cs hk
  induction hk with
  | nil =>
    intro w
    obtain ⟨_, _, _, _, _, _, _, _, gx, _, fx, e1, _⟩ := id fl
    refine wpAny_handleBy_nil ?_
    unfold PySem.passOn
    refine wpAny_bind (wpAny_field gx fx e1 ?_)
    rw [if_neg (by simp)]
    have out : wpAny (model X.prog X.w) X.A (setFlight (.ref a) X.env.frame) (fun _ t => wpAny (model X.prog X.w) X.A (throw (.ref a) : Sem Flow) (SP X pins D) X.xe t) X.xe { s' with heap := h3 } := by
      rw [hfm]
      refine HandSPX.setFlight_upZ fl fun h4 held u4 => wpAny_throw (tk _ _ ⟨a, B, sI, pins, σ, H, cls, d, rfl, J, nb', up.trans u4, .inr (.inr ?_), na, eos, bare, w⟩)
      rw [hst]; exact held
    first | exact wpAny_bind (wpAny_pure (wpAny_bind out)) | exact wpAny_bind out
  | @more x n c i ts st sts p1 p2 hs cs hi hl hc hsu r ih =>
    intro w
    obtain ⟨b, eb, yes, no⟩ := w
    have LM := PySem.W.exm_one (M := model X.prog X.w) J3.kIn ty eb
    have S3 := J3.suite g3 f3 na aL aF
    refine wpAny_handleBy_cons (codeAny_handlers_test ?_) (by intro q; cases q)
    have named : ∀ {Q : Value → Shared → Prop} {E : Value → Shared → Prop}, Q c { s' with heap := h3 } → wpAny (model X.prog X.w) (X.A.mark (some (.ref a))) (eval (.Name x p1) X.env) Q E { s' with heap := h3 } := fun q =>
      match hc with
      | ⟨hg, hd, .inl hm⟩ => ld_glob (X := X.suite a ((a, oe3) :: (X.pn ++ pins))) S3 hg hm q hd
      | ⟨hg, hd, .inr ⟨hm, hv, hn⟩⟩ => ld_blt (X := X.suite a ((a, oe3) :: (X.pn ++ pins))) S3 hg hm hv q hn hd
    refine named (LM.here ?_)
    cases b with
    | false => exact ih (no rfl)
    | true =>
      refine codeAny_handlers_suite_as (HandSPX.lands_againZ fl fun h4 fl4 u4 => ?_)
      obtain ⟨oe4, vs4, g4, z4, f4⟩ := fl4.there
      have S4 := (lands fl4.1 (up.trans u4)).suite g4 f4 na aL aF
      refine store_ok (X := X.suite a ((a, oe4) :: (X.pn ++ pins))) (v := .ref a) S4 hN hi (.inl hl) rfl (fun s5 S5 => ?_) (.inr hl)
      refine wpAny_mono ((hsu a oe4 cls d (X.pn ++ pins) z4 ⟨_, f4⟩).run [] s5 _ H _ S5 (yes rfl a na)) (fun f s6 end6 => ?_) fun _ _ z => z.elim
      cases f with
      | next => obtain ⟨_, _, S6, q6⟩ := end6; exact gone_ok (S6.unsuite J.ok) hN hi hl fun _ J7 => ⟨_, _, J7, q6⟩
      | brk => obtain ⟨_, _, S6, q6⟩ := end6; exact gone_ok (S6.unsuite J.ok) hN hi hl fun _ J7 => ⟨_, _, J7, q6⟩
      | cont => obtain ⟨_, _, S6, q6⟩ := end6; exact gone_ok (S6.unsuite J.ok) hN hi hl fun _ J7 => ⟨_, _, J7, q6⟩
      | ret u => obtain ⟨_, _, _, S6, r6, q6⟩ := end6; exact gone_ok (S6.unsuite J.ok) hN hi hl fun _ J7 => ⟨_, _, _, J7, r6, q6⟩
/-- try: body / except X as n: .. / except Y as m: .. -/
theorem ps_try_clauses {Wout : WX} {body : List Stmt} {h0 : ExceptHandler} {hs : List ExceptHandler} {cs : List Clause} {pos : Pos} {tb : WX → TS} (hst : X.stack = X.env :: X.outer) (hfm : X.env.frame = some X.env.locals) (hN : X.N.Nodup) (tk : Takes X Wout)
    (hb : ∀ (W : WX) (pn : List (Addr × Obj)) (xe : Value → Shared → Prop), Takes (X.tr pn xe) W → PassesOwn (model X.prog X.w) X.A X.env xe → PSs (X.tr pn xe) body (tb W)) (hc : Clauses X (h0 :: hs) cs) :
    PS X (.Try body (h0 :: hs) [] [] pos) (fun D σ H => tb (wAll X.K Wout D cs) D σ H) := by
  refine ⟨fun pins s σ H D I h => wpAny_Try_except ?_⟩
  have frames : X.A.frames = some (X.env :: X.outer) := by rw [I.ok.frames, hst]
  have run := hb (wAll X.K Wout D cs) (X.pn ++ pins) (fun e t => wpAny (model X.prog X.w) X.A (noteFrame e X.env) (fun _ t2 => wpAny (model X.prog X.w) X.A (setFlight e none) (fun _ t3 =>
    wpAny (model X.prog X.w) X.A (handleBy e X.env (h0 :: hs)) (SP X pins D) X.xe t3) X.xe t2) X.xe t)
  refine wpAny_mono ((run (fun u s' xx => ?_) PassesOwn.looking).run [] s σ H D (I.toTry _) h) (fun f t end1 => ?_) fun _ _ z => z
  · obtain ⟨a, B, sI, pins', σ', H', cls, d, rfl, J', nb, up, sky, na, eos, bare, w⟩ := xx
    rw [show (X.tr (X.pn ++ pins) _).stack = X.env :: X.outer from hst] at sky nb
    exact Sky.land Zc.steady frames hfm sky fun h3 fl3 up3 => clauses_run hst hfm hN tk (J'.ofTry I.ok) nb (up.trans up3) fl3 na eos bare hc w
  · cases f with
    | next => obtain ⟨_, _, J', q⟩ := end1; exact wpAny_execs_nil ⟨_, _, J'.ofTry I.ok, q⟩
    | brk => obtain ⟨_, _, J', q⟩ := end1; exact ⟨_, _, J'.ofTry I.ok, q⟩
    | cont => obtain ⟨_, _, J', q⟩ := end1; exact ⟨_, _, J'.ofTry I.ok, q⟩
    | ret v => obtain ⟨_, _, _, J', r, q⟩ := end1; exact ⟨_, _, _, J'.ofTry I.ok, r, q⟩
end
end Ow
namespace Ow
open PySem PySem.Spec PyProof.Rows L2
/-! ### Base.__init__(self, ..), Base a class of the program whose __init__ is ValueError's -/
/-- what the written part says of Base, at B -/
structure BaseI (K : PySem.W.Frag) (B : Addr) : Prop where
  ga : PySem.W.specialIn K (.ref B) "__getattribute__" = some (some (.builtin "type.__getattribute__"))
  rd : PySem.W.readsIn K B (.type "type") = true
  fi : PySem.W.findCls K (.ref B) (.type "type") "__init__" = some (.val (.builtin "ValueError.__init__"))
section
variable {X : Cx} {e : Expr} {es : List Expr} {ta : TA} {x : Str} {B : Addr} {p1 p2 pos : Pos}
theorem pe_baseInit {pl : Sem Bool} (hg : Gl X x) (hm : X.mg x = some (.ref B)) (T : BaseI X.K B) (ha : PA X (e :: es) ta)
    (hc : eval (.Call (.Attribute (.Name x p1) "__init__" p2) (e :: es) [] pos) X.env = (do
      let ov ← eval (.Name x p1) X.env
      standAt p2.atName
      let (f, first) ← holding [ov] (getMethod ov "__init__" pl)
      callWith pos f first (backTo pos (starEach (e :: es) X.env)) (backToKw pos (keywordEach [] X.env))) := by rfl)
    (hd : (x == ("__debug__" : Str)) = false := by decide)
    (he : starEach (e :: es) X.env = (false, eval e X.env) :: starEach es X.env := by rfl) (hpl : (backTo pos (starEach es X.env)).any (·.1) = false := by rfl) :
    PE X (.Call (.Attribute (.Name x p1) "__init__" p2) (e :: es) [] pos) (tVeI X.K ta) := by
  refine ⟨fun pins s σ H Q I h => PySem.W.methodCall_KW (ld_glob I hg hm ?_ hd) hc⟩
  refine PySem.W.method_cls I.kIn T.ga (PySem.W.cls_value I.kIn T.rd T.fi rfl ?_)
  show wpAny _ _ (callWith pos (Value.builtin "ValueError.__init__") [] (backTo pos (starEach (e :: es) X.env)) []) _ _ _
  refine PyProof.Rows.callWith_method1 (thn (ha.run pos pins _ σ H _ (I.tok _) h) fun us s1 got => ?_) he hpl
  obtain ⟨vs, H1, I1, r1, a, C, ws, rfl, hl, T1, ea, q⟩ := got
  obtain ⟨u0, ur, rfl, ra, rw'⟩ : ∃ u0 ur, us = u0 :: ur ∧ RelV (.ref a) u0 ∧ Vals ws ur := by
    cases r1 with
    | cons ra rr => exact ⟨_, _, rfl, ra, rr⟩
  cases ra
  exact oinit_ok T1 I1 ea (by rw [← Paired.length rw', sizeLine_eq]; omega) fun s' J => ⟨.non, H1, J, rfl, q⟩
end
/-! ### what is caught: its fields, isinstance -/
/-- the class D of a caught exception, for isinstance -/
structure CaughtC (K : PySem.W.Frag) (D : Addr) : Prop where
  cl : (PySem.W.clsIn K D).isSome = true
  hg : PySem.W.findIn K (.ref D) "__getattribute__" = some (some (.builtin "BaseException.__getattribute__"))
  hk : PySem.W.findIn K (.ref D) "__getattr__" = some none
  hs : PySem.W.subIn K (.ref D) (.type "BaseException") = some true
  ha : PySem.W.findIn K (.ref D) "__class__" = some (some (.builtin "object.__class__"))
  hn : PySem.W.specialIn K (.builtin "object.__class__") "__get__" = some (some (.builtin "getset_descriptor.__get__"))
  ht : PySem.W.takesIn K (.builtin "object.__class__") = some true
  hm : PySem.W.mroIn K D (.type "object") = some true
section
variable {X : Cx} {a D : Addr} {oe : Obj} {dd : Addr} {pn : List (Addr × Obj)}
theorem caught_inst {pins : List (Addr × Obj)} {σ : L2.St} {H : Hp} {s : Shared} {fs : List (Str × V)} (hz : Zc (.ref D) (some dd) oe) (hf : ∃ vs, oe.data = .fields vs) (I : Inv (X.suite a ((a, oe) :: pn)) pins σ H s) (ed : H dd = some (.xd fs)) :
    ∃ od, PySem.W.InstAt s.heap a oe D (some od) := by
  obtain ⟨got, _⟩ := I.pin (a, oe) (List.mem_append_left _ (.head _))
  obtain ⟨vs, hv⟩ := hf
  obtain ⟨mA, hns, _⟩ := (show ObjOk X.prog X.w H s.heap dd (.xd fs) from I.hok dd _ ed)
  obtain ⟨od, ho, _⟩ := lookIn_ns hns
  exact ⟨od, got, hz.1, by unfold PySem.W.notCls; rw [hv], by rw [hz.2]; exact ho⟩
/-- isinstance(e, c) -/
def rIsD (K : PySem.W.Frag) (a : Addr) (cls : Value) (d : Option Addr) : List V → Hp → VK → Prop := fun xs H Q => ∃ (D dd : Addr) (c : V) (cv : Value) (b : Bool) (fs : List (Str × V)), xs = [.ref a, c] ∧ cls = .ref D ∧ d = some dd ∧ CaughtC K D ∧ ClsV c cv ∧ H dd = some (.xd fs) ∧ PySem.W.kitOne K (.ref D) cv = some b ∧ Q (.bl b) H
theorem call_isD {cls : Value} {d : Option Addr} {K : PySem.W.Frag} (hK : X.K = K) (hz : Zc cls d oe) (hf : ∃ vs, oe.data = .fields vs) : CallR (X.suite a ((a, oe) :: pn)) (.builtin "isinstance") (rIsD K a cls d) := by
  subst hK
  intro pins s σ H xs us Q I r h
  obtain ⟨D, dd, c, cv, b, fs, rfl, rfl, rfl, C, hcv, ed, e, q⟩ := h
  obtain ⟨u1, u2, rfl, r1, r2⟩ := vals2 r
  cases r1
  cases hcv.eq r2
  obtain ⟨od, J⟩ := caught_inst hz hf I ed
  exact PySem.W.kia_one (PySem.W.kitx_exc C.cl C.hg C.hk C.hs C.ha C.hn C.ht C.hm) I.kIn J e (fun z => nomatch z) fun tk => ⟨.bl b, H, I.tok tk, rfl, q⟩
/-- isinstance(e, (c1, c2, ..)), the tuple just laid -/
def rIsDT (K : PySem.W.Frag) (a : Addr) (cls : Value) (d : Option Addr) : List V → Hp → VK → Prop := fun xs H Q => ∃ (D dd tp : Addr) (cs : List V) (us : List Value) (b : Bool) (fs : List (Str × V)), xs = [.ref a, .ref tp] ∧ cls = .ref D ∧ d = some dd ∧ CaughtC K D ∧ H tp = some (.tup cs) ∧ Paired ClsV cs us ∧ H dd = some (.xd fs) ∧
  PySem.W.kitAny K (.ref D) us = some b ∧ Q (.bl b) H
theorem call_isDT {cls : Value} {d : Option Addr} {K : PySem.W.Frag} (hK : X.K = K) (hz : Zc cls d oe) (hf : ∃ vs, oe.data = .fields vs) : CallR (X.suite a ((a, oe) :: pn)) (.builtin "isinstance") (rIsDT K a cls d) := by
  subst hK
  intro pins s σ H xs us Q I r h
  obtain ⟨D, dd, tp, cs, ws, b, fs, rfl, rfl, rfl, C, hT, k, ed, e, q⟩ := h
  obtain ⟨u1, u2, rfl, r1, r2⟩ := vals2 r
  cases r1
  cases r2
  obtain ⟨od, J⟩ := caught_inst hz hf I ed
  obtain ⟨_, its, rv, o, h1, h2, n, h3⟩ := (show ObjOk X.prog X.w H s.heap tp (.tup cs) from I.hok tp _ hT)
  have ei := ClsV.all k rv
  subst ei
  obtain ⟨oc, odd, oda, osl⟩ := o
  dsimp only at h2 h3
  subst h2 h3
  exact PySem.W.kia_tup (PySem.W.kitx_exc C.cl C.hg C.hk C.hs C.ha C.hn C.ht C.hm) I.kIn J h1 e (fun z => nomatch z) fun tk => ⟨.bl b, H, I.tok tk, rfl, q⟩
end
end Ow
namespace PySem.W
open PySem PySem.Calls PyProof.Rows Builtin Builtin.ObjectAttr Builtin.Getset_descriptor
/-! ### e.__class__ of an exception of the program, and the name of its class -/
section
variable {prog : Program} {w : World} {A : Around} {E : Value → Shared → Prop} {s : Shared} {K : Frag} {x C : Addr} {ox : Obj} {od : Option Obj} {expr : Bool}
/-- the two hooks of attribute reading differ -/
theorem hooks_apart {v : Value} : (onTheHeap v && Value.builtin "BaseException.__getattribute__" == Value.builtin "object.__getattribute__") = false := by
  have two : (Value.builtin "BaseException.__getattribute__" == Value.builtin "object.__getattribute__") = false := by decide +kernel
  rw [two, Bool.and_false]
/-- BaseException.__getattribute__ of it, by name -/
theorem oe_hook {P : Value → Shared → Prop} {tk : Tok} (X : K.In s.heap) (I : InstAt s.heap x ox C od) (isExc : subIn K (.ref C) (.type "BaseException") = some true) (isObj : mroIn K C (.type "object") = some true)
    (fo : findObj K C od "__class__" = some (.bind (.builtin "getset_descriptor.__get__") (.builtin "object.__class__"))) (want : P (.ref C) s) : wpAny (model prog w) A (call (.builtin "BaseException.__getattribute__") [.ref x, .str "__class__" tk]) P E s := by
  have ty := I.type (M := model prog w)
  have fnd := looks_find (M := model prog w) X I fo
  have ofIt : Looks (model prog w) s.heap (isInstance (.ref x) (.type "BaseException")) true := ty.andThen (looks_subIn X isExc)
  have plain := PySem.F.excAttr_ValueError.ga.plain
  refine wpAny_call (codeAny_call_builtin plain PySem.F.entry_bexc_ga (@check_slot (model prog w) _ _ s "BaseException.__getattribute__" "BaseException" "__getattribute__" (.ref x) [.str "__class__" tk] [] _ (by decide +kernel) (by decide +kernel) ofIt (PySem.F.args_bexc_ga (.ref x) (.str "__class__" tk)) ?_))
  unfold Builtin.«object.__getattribute__»
  refine wpAny_bind (wpAny_of_eq (a := ((Value.ref x : Value), [Value.str (Str.ofString "__class__") tk])) (by first | rfl | (simp only [slotArgs]; rfl)) (wpAny_bind (wpAny_pure (wpAny_bind (ty.at (wpAny_bind (fnd.at ?_)))))))
  have got : wpAny (model prog w) A.in1 (call (.builtin "getset_descriptor.__get__") [.builtin "object.__class__", .ref x, .ref C]) (fun v s' => v = .ref C ∧ s' = s) (fun _ _ => False) s := wpAny_call (class_get (s := s) (ox := ox) (od := od) X I isObj ⟨rfl, rfl⟩)
  refine wpAny_bind (wpAny_holding (wpAny_mono got (fun v s' e => ?_) fun _ _ z => z.elim))
  obtain ⟨rfl, rfl⟩ := e
  exact wpAny_pure want
theorem oe_classE {Q : Value → Shared → Prop} {gt : Option Value} (X : K.In s.heap) (I : InstAt s.heap x ox C od) (hook : findIn K (.ref C) "__getattribute__" = some (some (.builtin "BaseException.__getattribute__"))) (other : findIn K (.ref C) "__getattr__" = some gt)
    (isExc : subIn K (.ref C) (.type "BaseException") = some true) (fo : findObj K C od "__class__" = some (.bind (.builtin "getset_descriptor.__get__") (.builtin "object.__class__"))) (isObj : mroIn K C (.type "object") = some true)
    (want : Q (.ref C) { s with toks := s.toks + 1 }) : wpAny (model prog w) A (getAttr (.ref x) "__class__" expr) Q E s := by
  have ty := I.type (M := model prog w)
  have e1 : (expr && onTheHeap (Value.builtin "BaseException.__getattribute__")) = false := Bool.and_false expr
  unfold getAttr getAttrBy
  refine wpAny_bind (wpAny_mkText (wpAny_holding (wpAny_bind (ty.at (wpAny_bind ((looks_findIn (M := model prog w) X hook).at ?_))))))
  dsimp only
  rw [hooks_apart, if_neg (by decide)]
  unfold getAttrByItsOwn hookBefore
  rw [if_pos (show onTheHeap (Value.ref C) = true from rfl)]
  refine wpAny_bind ((looks_findIn (M := model prog w) X other).at (wpAny_bind (wpAny_attempt (wpAny_holding ?_))))
  unfold callGetattribute
  rw [e1, if_neg (by decide)]
  unfold boundAndCalled
  rw [PySem.F.excAttr_ValueError.ga.bind]
  exact wpAny_bind (wpAny_pure (oe_hook (s := { s with toks := s.toks + 1 }) X I isExc isObj fo (by
    show wpAny (model prog w) A (handedOut (Value.ref C)) _ _ _
    rw [handedOut_of (v := .ref C) rfl]
    first | exact wpAny_pure want | exact wpAny_pure (wpAny_pure want))))
theorem name_dga (d tp : Value) (C : Addr) : descrGetArgs ⟨[d, .ref C, tp], []⟩ = pure (d, some (.ref C), given tp) := by kernel_rfl
/-- the slot with the class's name -/
theorem name_get {R : Result → Shared → Prop} {tp : Value} {o : Obj} {nm : Str} {tk : Tok} (hC : s.heap.get? C = some o) (hc : o.cls = .type "type") (hs : (o.slots[2]?).join = some (.str nm tk)) (h : R (.ok (.ret (.str nm tk))) s) :
    codeAny (model prog w) A (.call (.builtin "getset_descriptor.__get__") ⟨[.builtin "type.__name__", .ref C, tp], []⟩) R s := by
  obtain ⟨hh, g, dr, t, os⟩ := s
  have N0 : Looks (model prog w) hh (typeOf (.ref C)) (.type "type") := fun _ _ _ _ k q => wpAny_typeOf_ref (k _ _ hC) (by rw [hc]; exact q)
  have N1 : Looks (model prog w) hh (isSubtype (.type "type") (.type "type")) true := Looks.of_pure (by rw [isSubtype_type]; kernel_rfl)
  have self1 := KF.args_gs (.builtin "type.__name__") (.ref C) tp
  refine codeAny_call_builtin KF.slot_gs.plain KF.entry_gs (KF.slot_gs.check _ _ _ _ _ _ _ _ ktyn_type self1 ?_)
  unfold Builtin.«getset_descriptor.__get__» descrGet descrGetter
  rw [name_dga (.builtin "type.__name__") tp C]
  refine wpAny_bind (wpAny_pure (show wpAny (model prog w) _ _ _ _ _ from ?_))
  unfold descrCheckInstance descrNameAndClass isInstance
  simp only [ktyn_owner, List.append_nil]
  (repeat lk); refine ⟨Code.quiet_builtin _ (by decide +kernel), codeAny_builtin ktyn_entry ?_⟩
  unfold Builtin.«type.__name__»; dsimp only
  unfold keptObject slotAt
  refine wpAny_bind (wpAny_bind (wpAny_loadPart hC (wpAny_pure ?_)))
  rw [hs]
  first | exact wpAny_bind (wpAny_pure (wpAny_pure h)) | exact wpAny_pure h | exact wpAny_bind (wpAny_pure h)
end
end PySem.W
namespace Ow
open PySem PySem.Spec PyProof.Rows L2
/-- what is told of the class C and its name -/
structure NamC (K : PySem.W.Frag) (C : Addr) (nm : Str) : Prop where
  cg : CaughtC K C
  rd : PySem.W.readsIn K C (.type "type") = true
  fn : PySem.W.findCls K (.ref C) (.type "type") "__name__" = some (.get (.builtin "getset_descriptor.__get__") (.builtin "type.__name__") (.ref C) (.type "type"))
  sl : ∃ o tk, K.lookup C = some o ∧ o.cls = .type "type" ∧ (o.slots[2]?).join = some (.str nm tk)
/-- self.__class__, an exception that is being made -/
def tCls (K : PySem.W.Frag) (te : TE) : TE := fun σ H Q => te σ H fun x H1 => ∃ (a C : Addr), x = .ref a ∧ CaughtC K C ∧ H1 a = some (exo a C none) ∧ Q (.ref C) H1
/-- C.__name__ -/
def tNam (K : PySem.W.Frag) (te : TE) : TE := fun σ H Q => te σ H fun x H1 => ∃ (C : Addr) (nm : Str), x = .ref C ∧ NamC K C nm ∧ Q (.str nm) H1
section
variable {X : Cx} {e : Expr} {te : TE} {pos : Pos}
theorem pe_cls (he : PE X e te) (hb : attributeBase e "__class__" X.env (eval e X.env) = eval e X.env := by rfl) : PE X (.Attribute e "__class__" pos) (tCls X.K te) := by
  refine ⟨fun pins s σ H Q I h => ?_⟩
  refine attr_of hb (thn (he.run pins s σ H _ I h) fun u s1 hh => ?_)
  obtain ⟨x, H1, I1, rx, a, C, ex, T, ea, q⟩ := hh
  subst ex
  obtain rfl : u = Value.ref a := rx
  obtain ⟨t1, ho⟩ := exo_at I1.hok ea
  exact PySem.W.oe_classE (od := none) I1.kIn ⟨ho, rfl, rfl, trivial⟩ T.hg T.hk T.hs (PySem.W.findObj_dataE T.cl T.ha T.hn T.ht) T.hm ⟨.ref C, H1, I1.tok _, rfl, q⟩
theorem pe_nam (he : PE X e te) (hb : attributeBase e "__name__" X.env (eval e X.env) = eval e X.env := by rfl) : PE X (.Attribute e "__name__" pos) (tNam X.K te) := by
  refine ⟨fun pins s σ H Q I h => ?_⟩
  refine attr_of hb (thn (he.run pins s σ H _ I h) fun u s1 hh => ?_)
  obtain ⟨x, H1, I1, rx, C, nm, ex, T, q⟩ := hh
  subst ex
  obtain rfl : u = Value.ref C := rx
  obtain ⟨o, tk, hl, hc, hs⟩ := T.sl
  refine PySem.W.cls_bind I1.kIn T.rd T.fn (wpAny_call (PySem.W.name_get (s := { s1 with toks := s1.toks + 1 }) (I1.kIn _ _ hl) hc hs ?_))
  exact PySem.W.handed_on rfl ⟨.str nm, H1, I1.tok _, ⟨_, rfl⟩, q⟩
end
end Ow
namespace Ow
open PySem PySem.Spec PyProof.Rows L2
/-! ### the errors of texts: TextError.__init__, raised by a subclass -/
/-- a number that a message can tell -/
def Told (n : Int) : Prop := 0 ≤ n ∧ n < 10 ^ 9
theorem told_log {n : Int} (h : Told n) : n.natAbs.log2 < 1920 := by
  have h1 : n.natAbs < 2 ^ 30 := by
    have := h.1; have := h.2
    have e : (10 : Int) ^ 9 = 1000000000 := by decide
    rw [e] at this
    have e2 : (2 : Nat) ^ 30 = 1073741824 := by decide
    omega
  by_cases h0 : n.natAbs = 0
  · rw [h0]; decide
  · have := (Nat.log2_lt h0).mpr h1
    omega
theorem told_len {n : Int} (h : Told n) : (Str.ofString (toString n)).length ≤ 9 := toString_length_le h.1 (by decide) h.2
/-- the fields of a text's error, x its class's name -/
def errF (x : Str) (r c : Int) : List (Str × V) := [("column", .int c), ("row", .int r), ("called", .str x)]
/-- the name of what is told of a bad number, a bad character -/
def errN (b : Bool) : Str := if b then "BadNumber" else "BadCharacter"
/-- a class below TextError, at C -/
structure ErrC (K : PySem.W.Frag) (mg : Str → Option Value) (fI : Addr) (x : Str) (C : Addr) : Prop where
  g : mg x = some (.ref C)
  ox : OexC K C
  nm : NamC K C x
  nl : PySem.W.findIn K (.ref C) "called" = some none
  nr : PySem.W.findIn K (.ref C) "row" = some none
  nc : PySem.W.findIn K (.ref C) "column" = some none
  iC : PySem.W.findIn K (.ref C) "__init__" = some (some (.ref fI))
def sp_TextError_init (K : PySem.W.Frag) : Sp := fun vs H Q _ => ∃ (a C : Addr) (x : Str) (r c : Int), vs = [.ref a, .int r, .int c] ∧ Told r ∧ Told c ∧ OexC K C ∧ NamC K C x ∧ PySem.W.findIn K (.ref C) "called" = some none ∧ PySem.W.findIn K (.ref C) "row" = some none ∧ PySem.W.findIn K (.ref C) "column" = some none ∧
  H a = some (exo a C none) ∧ ∀ d, H d = none → d ≠ a → Q .non (upd (upd (upd (upd H d (exd d [("called", .str x)])) a (exo a C (some d))) d (exd d [("row", .int r), ("called", .str x)])) d (exd d (errF x r c)))
section
variable {P : Program} {w : World} {K : PySem.W.Frag} {mg : Str → Option Value} {base : Heap}
theorem app_len (x y : Str) : (x ++ y).length = x.length + y.length := by
  have e : (x ++ y).cps = x.cps ++ y.cps := Str.cps_append x y
  show (x ++ y).cps.size = _
  rw [e, Array.size_append]
  rfl
theorem ok_TextError_init {f B : Addr} {fd : FuncData} (F : Fun K "__init__" "TextError.__init__" s_TextError_init f fd) (gB : mg "OwnerError" = some (.ref B)) (TB : BaseI K B) :
    FnOk P w K mg base CX0 1 f fd ["self", "row", "column"] (sp_TextError_init K) := by
  refine F.ok sc_TextError_init (fun vs H Q E h => ?_) (fun cdv A outer s H vs Q E hr h => ?_)
  · obtain ⟨_, _, _, _, _, rfl, _⟩ := h; rfl
  · obtain ⟨a, C, x, r, c, rfl, hr1, hc1, T, Nm, nl, nr, nc, ha, q⟩ := h
    refine ⟨_, pss_cons (ps_expr (pe_baseInit (by rfl) gB TB (pa_cons (pv 0) (pa_cons (pe_joined (PJ.cons pe_str (PJ.cons (pe_fmt (pv 1)) (PJ.cons pe_str (PJ.cons (pe_fmt (pv 2)) PJ.nil))))) pa_nil))))
      (pss_cons (ps_ost (pv 0) (pe_nam (pe_cls (pv 0)))) (pss_cons (ps_ost (pv 0) (pv 1)) (pss_one (ps_ost (pv 0) (pv 2))))), ?_⟩
    have l1 := told_len hr1
    have l2 := told_len hc1
    have e0 : (Str.empty : Str).length = 0 := rfl
    have e1 : ("row " : Str).length = 4 := by decide +kernel
    have e2 : (", column " : Str).length = 9 := by decide +kernel
    have big : (100 : Nat) ≤ sizeLine := by decide
    refine ⟨_, rfl, _, rfl, ?_, _, rfl, .inr ⟨r, rfl, told_log hr1, _, rfl, ?_, _, rfl, ?_, _, rfl, .inr ⟨c, rfl, told_log hc1, _, rfl, ?_, ?_⟩⟩⟩
    · rw [app_len, e0, e1]; omega
    · rw [app_len, app_len, e0, e1]; omega
    · rw [app_len, app_len, app_len, e0, e1, e2]; omega
    · rw [app_len, app_len, app_len, app_len, e0, e1, e2]; omega
    refine ⟨a, C, _, rfl, by show 1 ≤ 1000; decide, T, ha, ?_⟩
    refine ⟨_, rfl, a, C, rfl, Nm.cg, ha, C, x, rfl, Nm, _, rfl, a, C, rfl, T, nl, .inl ⟨ha, fun d nd nda => ?_⟩⟩
    refine ⟨_, rfl, _, rfl, a, C, rfl, T, nr, .inr ⟨d, _, upd_same, by rw [upd_ne nda, upd_same], by show 1 ≤ 900; decide, ?_⟩⟩
    refine ⟨_, rfl, _, rfl, a, C, rfl, T, nc, .inr ⟨d, _, by rw [upd_ne nda.symm, upd_same], upd_same, by show 2 ≤ 900; decide, ?_⟩⟩
    exact q d nd nda
end
/-- what TextError.__init__ is worth, and how it is bound -/
def HasInit (P : Program) (w : World) (K : PySem.W.Frag) (mg : Str → Option Value) (base : Heap) (fI : Addr) : Prop :=
  ∃ fd, FnOk P w K mg base CX0 1 fI fd ["self", "row", "column"] (sp_TextError_init K) ∧ Binds K fd ["self", "row", "column"] [] ∧ PySem.W.typeIn K (.ref fI) = some (.type "function")
section
variable {X : Cx}
/-- raise C(row, column) -/
theorem ps_raiseErr {W : WX} {x : Str} {C fI : Addr} {e1 e2 : Expr} {ta : TA} {p p' pos : Pos} (hc : X.calm = true) (tk : Takes X W) (hI : HasInit X.prog X.w X.K X.mg X.base fI) (E : ErrC X.K X.mg fI x C) (hr : Room 2 X.A) (hg : Gl X x) (ha : PA X [e1, e2] ta)
    (mono : ∀ σ H Q Q', (∀ vs H', Q vs H' → Q' vs H') → ta σ H Q → ta σ H Q') (hd : (x == ("__debug__" : Str)) = false := by decide) (he : starEach [e1, e2] X.env = (false, eval e1 X.env) :: starEach [e2] X.env := by rfl) (hpl : (backTo p' (starEach [e2] X.env)).any (·.1) = false := by rfl) :
    PS X (.Raise (some (.Call (.Name x p) [e1, e2] [] p')) none pos) (fun _ σ H => ta σ H fun vs H2 => ∃ r c : Int, vs = [.int r, .int c] ∧ Told r ∧ Told c ∧
      ∀ d, H2 d = none → W (.ref C) (some d) σ (upd H2 d (.xd (errF x r c)))) := by
  obtain ⟨fd, F, b, tI⟩ := hI
  refine ⟨fun pins s σ H D I h => ?_⟩
  refine (ps_raise (t := tMkO C (sp_TextError_init X.K) [] ta) hc tk (pmk_oex E.ox E.iC tI F hr b .nil pass0 hg E.g ha hd he hpl)).run pins s σ H D I ?_
  refine mono _ _ _ _ (fun vs H2 h2 => ?_) h
  obtain ⟨r, c, rfl, hr1, hc1, q⟩ := h2
  refine ⟨by show 2 ≤ 1000; decide, fun a na => ⟨a, C, x, r, c, rfl, hr1, hc1, E.ox, E.nm, E.nl, E.nr, E.nc, upd_same, fun d nd nda => ⟨rfl, d, errF x r c, ?_, upd_same, ?_, ?_⟩⟩⟩
  · rw [upd_ne nda.symm, upd_ne nda.symm, upd_same]
  · rwa [upd_ne nda] at nd
  · have nd' : H2 d = none := by rwa [upd_ne nda] at nd
    have e : upd (del (upd (upd (upd (upd (upd H2 a (exo a C none)) d (exd d [("called", V.str x)])) a (exo a C (some d))) d (exd d [("row", V.int r), ("called", V.str x)])) d (exd d (errF x r c))) a) d (.xd (errF x r c)) = upd H2 d (.xd (errF x r c)) := by
      funext y
      by_cases hy : y = d
      · subst hy; rw [upd_same, upd_same]
      · rw [upd_ne hy, upd_ne hy]
        by_cases hya : y = a
        · subst hya; rw [del_same]; exact na.symm
        · rw [del_ne hya, upd_ne hy, upd_ne hy, upd_ne hya, upd_ne hy, upd_ne hya]
    rw [e]
    exact q d nd'
end
end Ow
namespace Ow
open PySem PySem.Spec PyProof.Rows L2
/-- what begins no good token: a bad character, a bad number -/
inductive BadW : Bool → List Nat → Prop
  | chr (c : Nat) (r : List Nat) : isL c = false → isD c = false → c ≠ 10 → c ≠ 32 → c ≠ 35 → (∀ x ∈ signs, ¬ x <+: c :: r) → BadW false (c :: r)
  | num (c : Nat) (r s : List Nat) : isL c = false → isD c = true → (∀ x ∈ r, isW x = true) → Bd s → numS (c :: r) = true → numB (c :: r) = false → BadW true ((c :: r) ++ s)
theorem numB_of {w : List Nat} (h : NumOk w) : numB w = true ∧ numS w = true := by
  obtain ⟨h1, h2, h3, n, h4, h5⟩ := h
  have e0 : (decide (1 < w.length) && decide (w[0]? = some 48)) = false := by rw [← Bool.decide_and]; exact decide_eq_false h2
  have e1 : w.all isD = true := List.all_eq_true.mpr h1
  unfold numB numS
  rw [e0, e1, h4, decide_eq_true h3]
  exact ⟨by simpa using h5, rfl⟩
section
variable {P : Program} {w : World} {K : PySem.W.Frag} {mg : Str → Option Value} {base : Heap}
def sp_token_atX (CN CC : Addr) : Sp := fun vs H Q E => ∃ (pre rest : List Nat) (r c : Int), vs = [.str (S (pre ++ rest)), .int pre.length, .int r, .int c] ∧ (pre ++ rest).length ≤ 1000000 ∧
  ((∃ wd s k, rest = wd ++ s ∧ TokW k wd s ∧ ∀ p, H p = none → Q (.ref p) (upd H p (.tup (tupV k wd r c)))) ∨
   ∃ b, BadW b rest ∧ Told r ∧ Told c ∧ ∀ d, H d = none → E (.ref (if b then CN else CC)) (some d) (upd H d (.xd (errF (errN b) r c))))
theorem ok_token_atX {f : Addr} {fd : FuncData} {fI CN CC : Addr} (F : Fun K "token_at" "token_at" s_token_at f fd) (gL : GStr mg "LETTERS" (S letters)) (gD : GStr mg "DIGITS" (S digits)) (gK : GTup K mg "KEYWORDS" (kws.map V.str)) (gS : GTup K mg "LONG_SIGNS" (longs.map V.str)) (gO : GStr mg "SHORT_SIGNS" (S shorts))
    (hW : Has P w K mg base 2 "word_at" ["text", "at"] sp_word_at) (hN : Has P w K mg base 1 "is_number" ["word"] sp_is_numberX) (hI : HasInit P w K mg base fI) (hN2 : ErrC K mg fI "BadNumber" CN) (hC2 : ErrC K mg fI "BadCharacter" CC) :
    FnOk P w K mg base (L2.CX P w) 3 f fd ["text", "at", "row", "column"] (sp_token_atX CN CC) := by
  obtain ⟨tL, c_LETTERS⟩ := gL
  obtain ⟨tD, c_DIGITS⟩ := gD
  obtain ⟨aK, c_KEYWORDS, hK⟩ := gK
  obtain ⟨aS, c_LONG_SIGNS, hS⟩ := gS
  obtain ⟨tO, c_SHORT_SIGNS⟩ := gO
  obtain ⟨f1, fd1, G_word_at, k_word_at, b_word_at, g_word_at⟩ := hW
  obtain ⟨f2, fd2, G_is_number, k_is_number, b_is_number, g_is_number⟩ := hN
  refine F.okX sc_token_at (fun vs H Q E h => ?_) (fun cdv A outer s H vs Q E hr h => ?_)
  · obtain ⟨_, _, _, _, rfl, _⟩ := h; rfl
  · obtain ⟨pre, rest, r, c, rfl, hl, tw⟩ := h
    have hlen : (S (pre ++ rest)).length ≤ sizeLine := by rw [S_len]; exact Nat.le_trans hl (by decide)
    have tk : Takes (cxOf (L2.CX P w) P w K mg base ["text", "at", "row", "column", "word"] "token_at" (defScope s_token_at) f cdv A outer s H E) (fun cls d _ H => E cls d H) := takes_of rfl rfl rfl rfl
    have mono23 : ∀ σ H Q Q', (∀ vs H', Q vs H' → Q' vs H') → tCons (tVar 2) (tCons (tVar 3) tNil) σ H Q → tCons (tVar 2) (tCons (tVar 3) tNil) σ H Q' := fun σ H Q Q' k ⟨v, e, v', e', q⟩ => ⟨v, e, v', e', k _ _ q⟩
    refine ⟨_, (pss_cons (ps_if (pt_cmpR op_in_sign (pe_ix ix_str (pv 0) (pv 1) (fun _ _ => rfl)) (pe_glob rfl c_LETTERS rv_str) rfl)
        (pss_cons (ps_set (i := 4) sc_token_at.nd rfl (.inl rfl) (pe_call G_word_at (hr.mono (by decide)) (by rfl) g_word_at k_word_at b_word_at .nil pass0 (pa_cons (pv 0) (pa_cons (pv 1) pa_nil))))
        (pss_cons (ps_if (pt_cmpR op_in_seq (pv 4) (pe_glob rfl c_KEYWORDS rv_ref) rfl)
          (pss_one (ps_ret (pe_tup (pa_cons pe_str (pa_cons (pv 4) (pa_cons (pv 2) (pa_cons (pv 3) pa_nil)))))))
          pss_nil)
        (pss_one (ps_ret (pe_tup (pa_cons pe_str (pa_cons (pv 4) (pa_cons (pv 2) (pa_cons (pv 3) pa_nil)))))))))
        pss_nil)
      (pss_cons (ps_if (pt_cmpR op_in_sign (pe_ix ix_str (pv 0) (pv 1) (fun _ _ => rfl)) (pe_glob rfl c_DIGITS rv_str) rfl)
        (pss_cons (ps_set (i := 4) sc_token_at.nd rfl (.inl rfl) (pe_call G_word_at (hr.mono (by decide)) (by rfl) g_word_at k_word_at b_word_at .nil pass0 (pa_cons (pv 0) (pa_cons (pv 1) pa_nil))))
        (pss_cons (ps_if (pt_not (pt_val (pe_call G_is_number (hr.mono (by decide)) (by rfl) g_is_number k_is_number b_is_number .nil pass0 (pa_cons (pv 4) pa_nil))))
          (pss_one (ps_raiseErr rfl tk hI hN2 (hr.mono (by decide)) (by rfl) (pa_cons (pv 2) (pa_cons (pv 3) pa_nil)) mono23))
          pss_nil)
        (pss_one (ps_ret (pe_tup (pa_cons pe_str (pa_cons (pv 4) (pa_cons (pv 2) (pa_cons (pv 3) pa_nil)))))))))
        pss_nil)
      (pss_cons (ps_if (pt_cmpR op_in_seq (pe_slice sl_str (pv 0) (po_some (pv 1)) (po_some (pe_op op_add (pv 1) pe_int))) (pe_glob rfl c_LONG_SIGNS rv_ref) rfl)
          (pss_one (ps_ret (pe_tup (pa_cons pe_str (pa_cons (pe_slice sl_str (pv 0) (po_some (pv 1)) (po_some (pe_op op_add (pv 1) pe_int))) (pa_cons (pv 2) (pa_cons (pv 3) pa_nil)))))))
          pss_nil)
      (pss_cons (ps_if (pt_cmpR op_in_sign (pe_ix ix_str (pv 0) (pv 1) (fun _ _ => rfl)) (pe_glob rfl c_SHORT_SIGNS rv_str) rfl)
          (pss_one (ps_ret (pe_tup (pa_cons pe_str (pa_cons (pe_ix ix_str (pv 0) (pv 1) (fun _ _ => rfl)) (pa_cons (pv 2) (pa_cons (pv 3) pa_nil)))))))
          pss_nil)
      (pss_one (ps_raiseErr rfl tk hI hC2 (hr.mono (by decide)) (by rfl) (pa_cons (pv 2) (pa_cons (pv 3) pa_nil)) mono23)))))), ?_⟩
    have first : ∀ c0 r0, rest = c0 :: r0 → atI (S (pre ++ rest)).cps.toList (pre.length : Int) = some c0 := fun c0 r0 e => by
      rw [S_cps]
      refine atI_nat ?_
      rw [List.getElem?_append_right (Nat.le_refl _), e]
      simp
    rcases tw with ⟨wd, s, k, rfl, tw, q⟩ | ⟨b, bw, hr1, hc1, q⟩
    · cases tw with
      | word c0 r0 _ h1 h2 h3 =>
        refine ⟨_, rfl, _, rfl, _, _, c0, rfl, rfl, hlen, first c0 _ rfl, c0, S letters, rfl, rfl, _, rfl, ?_⟩
        rw [S_cps, show decide (c0 ∈ letters) = true from h1]
        refine iteT ?_
        refine ⟨_, rfl, _, rfl, pre, c0 :: r0, s, by rw [List.append_assoc]; rfl, by rw [List.append_assoc]; exact hl, ?_, h3, ?_⟩
        · intro x hx
          rcases List.mem_cons.mp hx with rfl | hx
          · unfold isW; rw [h1]; rfl
          · exact h2 x hx
        refine ⟨_, rfl, aK, _, rfl, .inr (hK _), rfl, flat_strs _, _, rfl, ?_⟩
        rw [inV_str]
        by_cases hk : S (c0 :: r0) ∈ kws
        · rw [decide_eq_true hk]
          refine iteT ?_
          rw [if_pos hk] at q
          exact ⟨_, rfl, _, rfl, _, rfl, four, q⟩
        · rw [decide_eq_false hk]
          refine iteF ?_
          rw [if_neg hk] at q
          exact ⟨_, rfl, _, rfl, _, rfl, four, q⟩
      | num c0 r0 _ h0 h1 h2 h3 =>
        refine ⟨_, rfl, _, rfl, _, _, c0, rfl, rfl, hlen, first c0 _ rfl, c0, S letters, rfl, rfl, _, rfl, ?_⟩
        rw [S_cps, show decide (c0 ∈ letters) = false from h0]
        refine iteF ?_
        refine ⟨_, rfl, _, rfl, _, _, c0, rfl, rfl, hlen, first c0 _ rfl, c0, S digits, rfl, rfl, _, rfl, ?_⟩
        rw [S_cps, show decide (c0 ∈ digits) = true from h1]
        refine iteT ?_
        refine ⟨_, rfl, _, rfl, pre, c0 :: r0, s, by rw [List.append_assoc]; rfl, by rw [List.append_assoc]; exact hl, ?_, h3, ?_⟩
        · intro x hx
          unfold isW
          rw [h2.1 x hx]
          simp
        have hb := numB_of h2
        refine ⟨_, rfl, c0 :: r0, rfl, by simp, Nat.le_trans (by rw [List.length_append, List.length_append]; omega) hl, hb.2, _, rfl, ?_⟩
        rw [hb.1]
        exact iteF ⟨_, rfl, _, rfl, _, rfl, four, q⟩
      | sign i c0 r0 _ h0 h1 h2 h3 h4 h5 h6 =>
        refine ⟨_, rfl, _, rfl, _, _, c0, rfl, rfl, hlen, first c0 _ rfl, c0, S letters, rfl, rfl, _, rfl, ?_⟩
        rw [S_cps, show decide (c0 ∈ letters) = false from h0]
        refine iteF ?_
        refine ⟨_, rfl, _, rfl, _, _, c0, rfl, rfl, hlen, first c0 _ rfl, c0, S digits, rfl, rfl, _, rfl, ?_⟩
        rw [S_cps, show decide (c0 ∈ digits) = false from h1]
        refine iteF ?_
        have first' : atI (S (pre ++ (c0 :: r0 ++ s))).cps.toList (pre.length : Int) = some c0 := first c0 _ rfl
        refine ⟨_, rfl, _, rfl, _, rfl, _, rfl, _, _, rfl, rfl, _, rfl, _, rfl, hlen, ?_⟩
        rw [cut_two]
        refine ⟨aS, _, rfl, .inr (hS _), rfl, flat_strs _, _, rfl, ?_⟩
        rw [inV_str]
        rcases sign_two h5 with ⟨hi, hm, hl2⟩ | ⟨hi, c1, hc1, e1⟩
        · have et : ((c0 :: r0) ++ s).take 2 = c0 :: r0 := by rw [← hl2]; exact List.take_left
          rw [et, decide_eq_true hm]
          refine iteT ?_
          refine ⟨_, rfl, _, rfl, _, rfl, _, rfl, _, _, rfl, rfl, _, rfl, _, rfl, hlen, ?_⟩
          rw [cut_two, et]
          exact ⟨_, rfl, _, rfl, four, q⟩
        · have nl := not_long (h6 0 _ (by omega) rfl) (h6 1 _ (by omega) rfl)
          rw [decide_eq_false nl]
          refine iteF ?_
          injection e1 with e1 e2
          subst e1 e2
          refine ⟨_, rfl, _, rfl, _, _, c0, rfl, rfl, hlen, first', c0, S shorts, rfl, rfl, _, rfl, ?_⟩
          rw [S_cps, show decide (c0 ∈ shorts) = true from decide_eq_true hc1]
          refine iteT ?_
          refine ⟨_, rfl, _, rfl, _, _, c0, rfl, rfl, hlen, first', ?_⟩
          exact ⟨_, rfl, _, rfl, four, q⟩
    · cases bw with
      | chr c0 r0 h0 h1 h2 h3 h4 h5 =>
        refine ⟨_, rfl, _, rfl, _, _, c0, rfl, rfl, hlen, first c0 _ rfl, c0, S letters, rfl, rfl, _, rfl, ?_⟩
        rw [S_cps, show decide (c0 ∈ letters) = false from h0]
        refine iteF ?_
        refine ⟨_, rfl, _, rfl, _, _, c0, rfl, rfl, hlen, first c0 _ rfl, c0, S digits, rfl, rfl, _, rfl, ?_⟩
        rw [S_cps, show decide (c0 ∈ digits) = false from h1]
        refine iteF ?_
        refine ⟨_, rfl, _, rfl, _, rfl, _, rfl, _, _, rfl, rfl, _, rfl, _, rfl, hlen, ?_⟩
        rw [cut_two]
        refine ⟨aS, _, rfl, .inr (hS _), rfl, flat_strs _, _, rfl, ?_⟩
        rw [inV_str, decide_eq_false (not_long (h5 _ (by decide)) (h5 _ (by decide)))]
        refine iteF ?_
        refine ⟨_, rfl, _, rfl, _, _, c0, rfl, rfl, hlen, first c0 _ rfl, c0, S shorts, rfl, rfl, _, rfl, ?_⟩
        rw [S_cps, not_short h5]
        refine iteF ?_
        exact ⟨_, rfl, _, rfl, r, c, rfl, hr1, hc1, q⟩
      | num c0 r0 s h0 h1 h2 h3 h4 h5 =>
        refine ⟨_, rfl, _, rfl, _, _, c0, rfl, rfl, hlen, first c0 _ rfl, c0, S letters, rfl, rfl, _, rfl, ?_⟩
        rw [S_cps, show decide (c0 ∈ letters) = false from h0]
        refine iteF ?_
        refine ⟨_, rfl, _, rfl, _, _, c0, rfl, rfl, hlen, first c0 _ rfl, c0, S digits, rfl, rfl, _, rfl, ?_⟩
        rw [S_cps, show decide (c0 ∈ digits) = true from h1]
        refine iteT ?_
        refine ⟨_, rfl, _, rfl, pre, c0 :: r0, s, by rw [List.append_assoc]; rfl, by rw [List.append_assoc]; exact hl, ?_, h3, ?_⟩
        · intro x hx
          rcases List.mem_cons.mp hx with rfl | hx
          · unfold isW; rw [h1]; simp
          · exact h2 x hx
        refine ⟨_, rfl, c0 :: r0, rfl, by simp, Nat.le_trans (by rw [List.length_append, List.length_append]; omega) hl, h4, _, rfl, ?_⟩
        rw [h5]
        exact iteT ⟨_, rfl, _, rfl, r, c, rfl, hr1, hc1, q⟩
end
end Ow
namespace Ow
open PySem PySem.Spec PyProof.Rows L2
/-- a def that may raise, and all that a call asks of it -/
def HasX (P : Program) (w : World) (K : PySem.W.Frag) (mg : Str → Option Value) (base : Heap) (k : Nat) (x : Str) (ps : List Str) (sp : Sp) : Prop :=
  ∃ f fd, FnOk P w K mg base (L2.CX P w) k f fd ps sp ∧ PySem.W.keepIn K (.ref f) = true ∧ Binds K fd ps [] ∧ mg x = some (.ref f)
theorem HasX.mk' {P : Program} {w : World} {K : PySem.W.Frag} {mg : Str → Option Value} {base : Heap} {k : Nat} {x : Str} {st : Stmt} {ps : List Str} {sp : Sp} (h : Here K mg x st ps)
    (ok : ∀ f fd, Fun K x x st f fd → FnOk P w K mg base (L2.CX P w) k f fd ps sp) : HasX P w K mg base k x ps sp := by
  obtain ⟨f, fd, F, m, b⟩ := h
  exact ⟨f, fd, ok f fd F, F.kp, b, m⟩
section
variable {P : Program} {w : World} {K : PySem.W.Frag} {mg : Str → Option Value} {base : Heap}
/-! ### tokens -/
/-- the tuples of these tokens stand at these addresses -/
def TokAt (H : Hp) (p : Addr) (t : Tk) : Prop := H p = some (.tup [.str t.1, .str t.2.1, .int t.2.2.1, .int t.2.2.2])
abbrev TL (H : Hp) (ps : List Addr) (ts : List Tk) : Prop := Paired (TokAt H) ps ts
theorem pairedApp {α β : Type} {F : α → β → Prop} : ∀ {l : List α} {m : List β} {a : α} {b : β}, Paired F l m → F a b → Paired F (l ++ [a]) (m ++ [b])
  | _, _, _, _, .nil, h => .cons h .nil
  | _, _, _, _, .cons r t, h => .cons r (pairedApp t h)
theorem TL.same {H H' : Hp} {ps : List Addr} {ts : List Tk} (h : TL H ps ts) (s : ∀ b xs, H b = some (.tup xs) → H' b = some (.tup xs)) : TL H' ps ts := L2.Paired.mapP h fun p t e => s _ _ e
/-- a text read from here on: its tokens, and the bad thing that ends the reading -/
inductive Scan : List Nat → List Nat → List Tk → Option (Bool × Int × Int) → Prop
  | fin (pre : List Nat) : Scan pre [] [("end", "", rowOf pre, colOf pre)] none
  | bad {pre suf : List Nat} {b : Bool} : BadW b suf → Scan pre suf [] (some (b, rowOf pre, colOf pre))
  | nl {pre s : List Nat} {ts : List Tk} {e : Option (Bool × Int × Int)} : Scan (pre ++ [10]) s ts e → Scan pre (10 :: s) ts e
  | sp {pre s : List Nat} {ts : List Tk} {e : Option (Bool × Int × Int)} : Scan (pre ++ [32]) s ts e → Scan pre (32 :: s) ts e
  | cm {pre s : List Nat} (c : List Nat) {ts : List Tk} {e : Option (Bool × Int × Int)} : 10 ∉ c → (s = [] ∨ ∃ r, s = 10 :: r) → Scan (pre ++ 35 :: c) s ts e → Scan pre (35 :: (c ++ s)) ts e
  | tk {pre s : List Nat} {k : Str} {w : List Nat} {ts : List Tk} {e : Option (Bool × Int × Int)} : TokW k w s → Scan (pre ++ w) s ts e → Scan pre (w ++ s) ((k, S w, rowOf pre, colOf pre) :: ts) e
theorem Scan.nil_inv {pre : List Nat} {rest : List Tk} {er : Option (Bool × Int × Int)} (h : Scan pre [] rest er) : rest = [(("end", "", rowOf pre, colOf pre) : Tk)] ∧ er = none := by
  generalize e : ([] : List Nat) = u at h
  cases h with
  | fin => exact ⟨rfl, rfl⟩
  | bad h => cases h <;> cases e
  | nl h => cases e
  | sp h => cases e
  | cm c h1 h2 h3 => cases e
  | tk tw h => exact absurd (List.append_eq_nil_iff.mp e.symm).1 tw.ne
theorem Scan.inv10 {pre r : List Nat} {rest : List Tk} {er : Option (Bool × Int × Int)} (h : Scan pre (10 :: r) rest er) : Scan (pre ++ [10]) r rest er := by
  generalize e : 10 :: r = u at h
  cases h with
  | fin => cases e
  | bad h =>
    cases h with
    | chr c r h1 h2 h3 h4 h5 h6 => cases e; exact absurd rfl h3
    | num c r s h1 h2 h3 h4 h5 => cases e; exact absurd h2 (by decide)
  | nl h => cases e; exact h
  | sp h => cases e
  | cm c h1 h2 h3 => cases e
  | tk tw h =>
    exfalso
    cases tw with
    | word c' r' s' h1 h2 h3 => cases e; exact absurd h1 (by decide)
    | num c' r' s' h0 h1 h2 h3 => cases e; exact absurd h1 (by decide)
    | sign i c' r' s' h0 h1 h2 h3 h4 h5 h6 => cases e; exact h2 rfl
theorem Scan.inv32 {pre r : List Nat} {rest : List Tk} {er : Option (Bool × Int × Int)} (h : Scan pre (32 :: r) rest er) : Scan (pre ++ [32]) r rest er := by
  generalize e : 32 :: r = u at h
  cases h with
  | fin => cases e
  | bad h =>
    cases h with
    | chr c r h1 h2 h3 h4 h5 h6 => cases e; exact absurd rfl h4
    | num c r s h1 h2 h3 h4 h5 => cases e; exact absurd h2 (by decide)
  | nl h => cases e
  | sp h => cases e; exact h
  | cm c h1 h2 h3 => cases e
  | tk tw h =>
    exfalso
    cases tw with
    | word c' r' s' h1 h2 h3 => cases e; exact absurd h1 (by decide)
    | num c' r' s' h0 h1 h2 h3 => cases e; exact absurd h1 (by decide)
    | sign i c' r' s' h0 h1 h2 h3 h4 h5 h6 => cases e; exact h3 rfl
theorem Scan.inv35 {pre r : List Nat} {rest : List Tk} {er : Option (Bool × Int × Int)} (h : Scan pre (35 :: r) rest er) : ∃ cc s2, r = cc ++ s2 ∧ 10 ∉ cc ∧ (s2 = [] ∨ ∃ r, s2 = 10 :: r) ∧ Scan (pre ++ 35 :: cc) s2 rest er := by
  generalize e : 35 :: r = u at h
  cases h with
  | fin => cases e
  | bad h =>
    cases h with
    | chr c r h1 h2 h3 h4 h5 h6 => cases e; exact absurd rfl h5
    | num c r s h1 h2 h3 h4 h5 => cases e; exact absurd h2 (by decide)
  | nl h => cases e
  | sp h => cases e
  | cm c h1 h2 h3 => cases e; exact ⟨_, _, rfl, h1, h2, h3⟩
  | tk tw h =>
    exfalso
    cases tw with
    | word c' r' s' h1 h2 h3 => cases e; exact absurd h1 (by decide)
    | num c' r' s' h0 h1 h2 h3 => cases e; exact absurd h1 (by decide)
    | sign i c' r' s' h0 h1 h2 h3 h4 h5 h6 => cases e; exact h4 rfl
theorem Scan.inv {pre r : List Nat} {c : Nat} {rest : List Tk} {er : Option (Bool × Int × Int)} (h : Scan pre (c :: r) rest er) (n1 : ¬ c = 10) (n2 : ¬ c = 32) (n3 : ¬ c = 35) :
    (∃ k wd s2 rest2, c :: r = wd ++ s2 ∧ rest = (k, S wd, rowOf pre, colOf pre) :: rest2 ∧ TokW k wd s2 ∧ Scan (pre ++ wd) s2 rest2 er) ∨ ∃ b, BadW b (c :: r) ∧ rest = [] ∧ er = some (b, rowOf pre, colOf pre) := by
  generalize e : c :: r = u at h
  cases h with
  | fin => cases e
  | bad h => exact .inr ⟨_, h, rfl, rfl⟩
  | nl h => cases e; exact absurd rfl n1
  | sp h => cases e; exact absurd rfl n2
  | cm c h1 h2 h3 => cases e; exact absurd rfl n3
  | tk tw h => exact .inl ⟨_, _, _, _, rfl, rfl, tw, h⟩
theorem told_row {l : List Nat} (h : l.length ≤ 1000000) : Told (rowOf l) := by
  have := List.count_le_length (a := 10) (l := l)
  unfold Told rowOf
  refine ⟨by omega, ?_⟩
  have e : (10 : Int) ^ 9 = 1000000000 := by decide
  rw [e]; omega
theorem told_col {l : List Nat} (h : l.length ≤ 1000000) : Told (colOf l) := by
  have := tl_le l
  unfold Told colOf
  refine ⟨by omega, ?_⟩
  have e : (10 : Int) ^ 9 = 1000000000 := by decide
  rw [e]; omega
theorem beg_app (l w : List Nat) (n : Nat) (h : n = w.length) : l.length + n - (tl l + n) = l.length - tl l := by omega
def sp_tokensX (CN CC : Addr) : Sp := fun vs H Q E => ∃ (l : List Nat) (ts : List Tk) (er : Option (Bool × Int × Int)), vs = [.str (S l)] ∧ l.length ≤ 1000000 ∧ Scan [] l ts er ∧
  (er = none → ∀ H' p ps, Same H H' → H p = none → H' p = some (.lst (ps.map V.ref)) → TL H' ps ts → Q (.ref p) H') ∧
  (∀ b r c, er = some (b, r, c) → ∀ d H', Same H H' → H' d = some (.xd (errF (errN b) r c)) → E (.ref (if b then CN else CC)) (some d) H')
theorem ok_tokensX {f : Addr} {fd : FuncData} {CN CC : Addr} (F : Fun K "tokens" "tokens" s_tokens f fd)
    (hC : Has P w K mg base 1 "comment_end" ["text", "at"] sp_comment_end) (hT : HasX P w K mg base 3 "token_at" ["text", "at", "row", "column"] (sp_token_atX CN CC)) (z_len : mg "len" = none) :
    FnOk P w K mg base (L2.CX P w) 4 f fd ["text"] (sp_tokensX CN CC) := by
  obtain ⟨f1, fd1, G_comment_end, k_comment_end, b_comment_end, g_comment_end⟩ := hC
  obtain ⟨f2, fd2, G_token_at, k_token_at, b_token_at, g_token_at⟩ := hT
  refine F.okX sc_tokens (fun vs H Q E h => ?_) (fun cdv A outer s H vs Q E hr h => ?_)
  · obtain ⟨_, _, _, rfl, _⟩ := h; rfl
  · obtain ⟨l, ts, er, rfl, hl, tk, q, qe⟩ := h
    have tkk : Takes (cxOf (L2.CX P w) P w K mg base ["text", "found", "at", "row", "row_begin", "char", "token"] "tokens" (defScope s_tokens) f cdv A outer s H E) (fun cls d _ H => E cls d H) := takes_of rfl rfl rfl rfl
    have hlen : (S l).length ≤ sizeLine := by rw [S_len]; exact Nat.le_trans hl (by decide)
    refine ⟨_, (pss_cons (ps_set (i := 1) sc_tokens.nd rfl (.inl rfl) (pe_lst pa_nil))
      (pss_cons (ps_set (i := 2) sc_tokens.nd rfl (.inl rfl) pe_int)
      (pss_cons (ps_set (i := 3) sc_tokens.nd rfl (.inl rfl) pe_int)
      (pss_cons (ps_set (i := 4) sc_tokens.nd rfl (.inl rfl) pe_int)
      (pss_cons (ps_while (passes_of rfl) (pt_cmpR op_lt (pv 2) (pe_callB call_len_str (by rfl) z_len PySem.boot_len (pa_cons (pv 0) pa_nil)) (nomark _))
        (pss_cons (ps_set (i := 5) sc_tokens.nd rfl (.inl rfl) (pe_ix ix_str (pv 0) (pv 2) (fun _ _ => rfl)))
        (pss_one (ps_if (pt_cmpR op_eq (pv 5) pe_str (nomark _))
          (pss_cons (ps_aug (i := 2) sc_tokens.nd rfl (.inl rfl) pe_int ip_add)
          (pss_cons (ps_aug (i := 3) sc_tokens.nd rfl (.inl rfl) pe_int ip_add)
          (pss_one (ps_set (i := 4) sc_tokens.nd rfl (.inl rfl) (pv 2)))))
          (pss_one (ps_if (pt_cmpR op_eq (pv 5) pe_str (nomark _))
            (pss_one (ps_aug (i := 2) sc_tokens.nd rfl (.inl rfl) pe_int ip_add))
            (pss_one (ps_if (pt_cmpR op_eq (pv 5) pe_str (nomark _))
              (pss_one (ps_set (i := 2) sc_tokens.nd rfl (.inl rfl) (pe_call G_comment_end (hr.mono (by decide)) (by rfl) g_comment_end k_comment_end b_comment_end .nil pass0 (pa_cons (pv 0) (pa_cons (pv 2) pa_nil)))))
              (pss_cons (ps_set (i := 6) sc_tokens.nd rfl (.inl rfl) (pe_call G_token_at (hr.mono (by decide)) (by rfl) g_token_at k_token_at b_token_at .nil (passes_call tkk (fun _ _ _ _ h => h)) (pa_cons (pv 0) (pa_cons (pv 2) (pa_cons (pv 3) (pa_cons (pe_op op_add (pe_op op_sub (pv 2) (pv 4)) pe_int) pa_nil))))))
              (pss_cons (ps_expr (pe_bm PySem.F.plainAttrs_list PySem.F.slot_list_append PySem.F.type_list_append mt_append (pv 1) (pa_cons (pv 6) pa_nil)))
              (pss_one (ps_aug (i := 2) sc_tokens.nd rfl (.inl rfl) (pe_callB call_len_str (by rfl) z_len PySem.boot_len (pa_cons (pe_ix ix_tup (pv 6) pe_int (fun _ _ => rfl)) pa_nil)) ip_add))))))))))))
      (pss_cons (ps_expr (pe_bm PySem.F.plainAttrs_list PySem.F.slot_list_append PySem.F.type_list_append mt_append (pv 1) (pa_cons (pe_tup (pa_cons pe_str (pa_cons pe_str (pa_cons (pv 3) (pa_cons (pe_op op_add (pe_op op_sub (pv 2) (pv 4)) pe_int) pa_nil))))) pa_nil)))
      (pss_one (ps_ret (pv 1))))))))), ?_⟩
    refine ⟨Nat.zero_le _, fun a na => ?_⟩
    -- the loop
    refine ⟨fun m σ H1 => ∃ (pre suf : List Nat) (done rest : List Tk) (ps : List Addr) (y5 y6 : Option V), m = suf.length ∧ l = pre ++ suf ∧ Scan pre suf rest er ∧ ts = done ++ rest ∧ done.length ≤ pre.length ∧ Same H H1 ∧
        H1 a = some (.lst (ps.map V.ref)) ∧ TL H1 ps done ∧
        σ = [some (.str (S l)), some (.ref a), some (.int (pre.length : Nat)), some (.int (rowOf pre)), some (.int ((pre.length - tl pre : Nat) : Int)), y5, y6],
      ⟨l.length, [], l, [], ts, [], none, none, rfl, rfl, tk, rfl, Nat.le_refl _, same_upd na, upd_same, .nil, rfl⟩, ?_⟩
    rintro m σ H1 ⟨pre, suf, done, rest, ps, y5, y6, rfl, el, tk1, ed, hdl, sm, ha, htl, rfl⟩
    have htp := tl_le pre
    have hps : ps.length = done.length := Paired.length htl
    have hcol : ((pre.length : Nat) : Int) - ((pre.length - tl pre : Nat) : Int) + 1 = colOf pre := by unfold colOf; omega
    refine ⟨_, rfl, _, rfl, _, rfl, hlen, _, _, rfl, rfl, _, rfl, ?_⟩
    rw [S_len]
    have hll : l.length = pre.length + suf.length := by rw [el, List.length_append]
    cases hs : suf with
    | nil =>
      subst hs
      rw [decide_eq_false (by simp at hll; omega)]
      refine iteF ?_
      obtain ⟨er1, er2⟩ := tk1.nil_inv
      · subst er1
        refine ⟨_, rfl, .inl ⟨rfl, _, SqL.of ha⟩, _, rfl, _, rfl, _, rfl, _, _, rfl, rfl, _, _, rfl, rfl, four, fun p np => ?_⟩
        have nap : a ≠ p := ne_of_none ha np
        refine ⟨a, _, _, rfl, rfl, by rw [upd_ne nap]; exact ha, ?_, ?_⟩
        · rw [List.length_map, hps]
          exact Nat.lt_of_le_of_lt hdl (Nat.lt_of_le_of_lt (by omega : pre.length ≤ 1000000) (by decide))
        refine ⟨_, rfl, ?_⟩
        refine q er2 _ a (ps ++ [p]) (fun b o e => ?_) na (by rw [upd_same, List.map_append]; rfl) ?_
        · rw [upd_ne (ne_of_none e na)]
          exact same_upd np _ _ (sm _ _ e)
        · rw [ed]
          refine pairedApp (htl.same fun b xs e => ?_) ?_
          · have nb : b ≠ a := ne_of e ha (by intro z; cases z)
            rw [upd_ne nb]
            exact same_upd np _ _ e
          · show (upd (upd H1 p _) a _) p = _
            rw [upd_ne nap.symm, upd_same, ← hcol]
    | cons c r =>
      subst hs
      rw [decide_eq_true (by simp at hll; omega)]
      refine iteT ?_
      refine ⟨fun σ' H' => ∃ m', m' < (c :: r).length ∧ ∃ (pre suf : List Nat) (done rest : List Tk) (ps : List Addr) (y5 y6 : Option V), m' = suf.length ∧ l = pre ++ suf ∧ Scan pre suf rest er ∧ ts = done ++ rest ∧ done.length ≤ pre.length ∧ Same H H' ∧
        H' a = some (.lst (ps.map V.ref)) ∧ TL H' ps done ∧
        σ' = [some (.str (S l)), some (.ref a), some (.int (pre.length : Nat)), some (.int (rowOf pre)), some (.int ((pre.length - tl pre : Nat) : Int)), y5, y6], fun _ _ h => h, ?_⟩
      have hg : atI (S l).cps.toList ((pre.length : Nat) : Int) = some c := by
        rw [S_cps, el]
        refine atI_nat ?_
        rw [List.getElem?_append_right (Nat.le_refl _)]
        simp
      have isc : ∀ (z : String) (n : Nat), (z : Str) = ⟨#[n]⟩ → (decide (V.str ⟨#[c]⟩ = V.str (z : Str)) = decide (c = n)) := fun z n e => by
        rw [e]
        by_cases h : c = n
        · subst h; simp
        · rw [decide_eq_false h, decide_eq_false]
          intro q
          injection q with q
          injection q with q
          exact h (by simpa using q)
      refine ⟨_, rfl, _, rfl, _, _, c, rfl, rfl, hlen, hg, ?_⟩
      refine ⟨_, rfl, rfl, _, rfl, ?_⟩
      rw [isc "\n" 10 (by decide +kernel)]
      by_cases h10 : c = 10
      · subst h10
        refine iteT ?_
        refine ⟨_, rfl, _, _, rfl, rfl, _, rfl, _, _, rfl, rfl, _, rfl, ?_⟩
        have tk2 := tk1.inv10
        refine ⟨r.length, by simp, pre ++ [10], r, done, rest, ps, some (.str ⟨#[10]⟩), y6, rfl, by rw [el]; simp, tk2, ed, by simp; omega, sm, ha, htl, ?_⟩
        rw [rowOf_nl, tl_nl, List.length_append]
        rfl
      · rw [decide_eq_false h10]
        refine iteF ?_
        refine ⟨_, rfl, rfl, _, rfl, ?_⟩
        rw [isc " " 32 (by decide +kernel)]
        by_cases h32 : c = 32
        · subst h32
          refine iteT ?_
          refine ⟨_, rfl, _, _, rfl, rfl, ?_⟩
          have tk2 := tk1.inv32
          refine ⟨r.length, by simp, pre ++ [32], r, done, rest, ps, some (.str ⟨#[32]⟩), y6, rfl, by rw [el]; simp, tk2, ed, by simp; omega, sm, ha, htl, ?_⟩
          rw [rowOf_app (by decide), tl_app _ _ (by decide), List.length_append, beg_app pre _ _ rfl]
          rfl
        · rw [decide_eq_false h32]
          refine iteF ?_
          refine ⟨_, rfl, rfl, _, rfl, ?_⟩
          rw [isc "#" 35 (by decide +kernel)]
          by_cases h35 : c = 35
          · subst h35
            refine iteT ?_
            obtain ⟨cc, s2, e1, n10, hs2, tk2⟩ := tk1.inv35
            have e3 : l = pre ++ (35 :: cc) ++ s2 := by rw [el, e1]; simp
            have n10' : 10 ∉ 35 :: cc := by simp; exact n10
            refine ⟨_, rfl, _, rfl, pre, 35 :: cc, s2, by rw [← e3]; rfl, by rw [← e3]; exact hl, n10', hs2, ?_⟩
            refine ⟨s2.length, by rw [e1]; simp; omega, pre ++ 35 :: cc, s2, done, rest, ps, some (.str ⟨#[35]⟩), y6, rfl, e3, tk2, ed, by simp; omega, sm, ha, htl, ?_⟩
            rw [rowOf_app n10', tl_app _ _ n10', List.length_append, beg_app pre _ _ rfl]
            rfl
          · rw [decide_eq_false h35]
            refine iteF ?_
            have cases1 := tk1.inv h10 h32 h35
            have hpl : pre.length ≤ 1000000 := by omega
            rcases cases1 with ⟨k, wd, s2, rest2, e1, e2, tw, tk2⟩ | ⟨b, bw, er1, er2⟩
            case inr =>
              subst er1
              refine ⟨_, rfl, _, rfl, _, rfl, _, rfl, _, rfl, _, _, rfl, rfl, _, _, rfl, rfl, pre, c :: r, rowOf pre, _, by rw [← el]; rfl, by rw [← el]; exact hl, .inr ⟨b, bw, told_row hpl, ?_, fun d nd => ?_⟩⟩
              · rw [show (((pre.length : Nat) : Int) - ((pre.length - tl pre : Nat) : Int)) + 1 = colOf pre from hcol]; exact told_col hpl
              · refine qe b _ _ er2 d _ (fun b o e => ?_) ?_
                · exact same_upd nd _ _ (sm _ _ e)
                · rw [upd_same]
                  rw [show (((pre.length : Nat) : Int) - ((pre.length - tl pre : Nat) : Int)) + 1 = colOf pre from hcol]
            have e3 : l = pre ++ wd ++ s2 := by rw [el, e1]; simp
            refine ⟨_, rfl, _, rfl, _, rfl, _, rfl, _, rfl, _, _, rfl, rfl, _, _, rfl, rfl, pre, wd ++ s2, rowOf pre, _, by rw [← List.append_assoc, ← e3]; rfl, by rw [← List.append_assoc, ← e3]; exact hl, .inl ⟨wd, s2, k, rfl, tw, fun p np => ?_⟩⟩
            have nap : a ≠ p := ne_of_none ha np
            refine ⟨_, rfl, .inl ⟨rfl, _, SqL.of (by rw [upd_ne nap]; exact ha)⟩, _, rfl, a, _, _, rfl, rfl, by rw [upd_ne nap]; exact ha, ?_, ?_⟩
            · rw [List.length_map, hps]
              exact Nat.lt_of_le_of_lt hdl (Nat.lt_of_le_of_lt (by omega : pre.length ≤ 1000000) (by decide))
            have nb : p ≠ a := nap.symm
            refine ⟨_, rfl, _, rfl, p, _, 1, _, rfl, rfl, SqT.of (by rw [upd_ne nb, upd_same]), rfl, _, rfl, ?_, _, _, rfl, rfl, ?_⟩
            · rw [S_len]; exact Nat.le_trans (by rw [e3] at hl; simp at hl; omega) (show 1000000 ≤ sizeLine by decide)
            have hw1 : 1 ≤ wd.length := by
              cases wd with
              | nil => exact absurd rfl tw.ne
              | cons _ _ => simp
            refine ⟨s2.length, by rw [e1]; simp; omega, pre ++ wd, s2, done ++ [(k, S wd, rowOf pre, colOf pre)], rest2, ps ++ [p], some (.str ⟨#[c]⟩), some (.ref p), rfl, e3, tk2, by rw [ed, e2]; simp, by simp; omega, fun b o e => ?_, by rw [upd_same, List.map_append]; rfl, ?_, ?_⟩
            · rw [upd_ne (ne_of_none e na)]
              exact same_upd np _ _ (sm _ _ e)
            · refine pairedApp (htl.same fun b xs e => ?_) ?_
              · have nb : b ≠ a := ne_of e ha (by intro z; cases z)
                rw [upd_ne nb]
                exact same_upd np _ _ e
              · show (upd (upd H1 p _) a _) p = _
                rw [upd_ne nb, upd_same, ← hcol]
                rfl
            · rw [rowOf_app tw.no10, tl_app _ _ tw.no10]
              rw [List.length_append, beg_app pre _ _ rfl, S_len]
              rfl
end
end Ow
namespace Ow
open PySem PySem.Spec PyProof.Rows L2
section
variable {P : Program} {w : World} {K : PySem.W.Frag} {mg : Str → Option Value} {base : Heap}
/-! ### the law's draws -/
def sp__law_mix : Sp := fun vs H Q _ => ∃ (c k : Int), vs = [.int c, .int k] ∧ ∀ n : Int, 0 ≤ n → n < 1000 → Q (.int n) H
theorem ok__law_mix {f : Addr} {fd : FuncData} (F : Fun K "_law_mix" "_law_mix" s__law_mix f fd) (z_int : mg "int" = none) :
    FnOk P w K mg base CX0 1 f fd ["cell", "k"] sp__law_mix := by
  refine F.ok sc__law_mix (fun vs H Q E h => ?_) (fun cdv A outer s H vs Q E hr h => ?_)
  · obtain ⟨_, _, rfl, _⟩ := h; rfl
  · obtain ⟨c, k, rfl, q⟩ := h
    refine ⟨_, (pss_cons (ps_set (i := 2) sc__law_mix.nd rfl (.inl rfl) (pe_op op_mod (pe_callTy call_int1 (by rfl) z_int (by decide +kernel) (pa_cons (pe_op op_add (pe_op op_add (pe_op op_mul (pv 0) pe_int) (pe_op op_mul (pv 1) pe_int)) pe_int) pa_nil)) pe_int))
      (pss_one (ps_ret (pe_op op_mod (pe_op op_mod (pe_callTy call_int1 (by rfl) z_int (by decide +kernel) (pa_cons (pe_op op_add (pe_op op_add (pe_op op_add (pe_op op_mul (pv 2) (pv 2)) (pe_op op_mul (pv 0) pe_int)) (pe_op op_mul (pv 1) pe_int)) pe_int) pa_nil)) pe_int) pe_int)))), ?_⟩
    refine ⟨_, rfl, _, _, rfl, rfl, .inr ⟨by decide, by decide⟩, _, rfl, _, _, rfl, rfl, .inr ⟨by decide, by decide⟩, _, _, rfl, rfl, _, _, rfl, rfl, .inl ⟨_, rfl, _, _, rfl, rfl, (by show (0 : Int) < 2147483647; decide), ?_⟩⟩
    generalize hlow : (c * 48271 + k * 69621 + 11) % 2147483647 = low
    have h1 : 0 ≤ low := by omega
    have h2 : low < 2147483647 := by omega
    refine ⟨_, rfl, _, rfl, _, _, rfl, rfl, .inl ⟨by omega, by omega⟩, _, rfl, _, _, rfl, rfl, .inr ⟨by decide, by decide⟩, _, _, rfl, rfl, _, rfl, _, _, rfl, rfl, .inr ⟨by decide, by decide⟩, _, _, rfl, rfl, _, _, rfl, rfl,
      .inl ⟨_, rfl, _, _, rfl, rfl, (by show (0 : Int) < 1000003; decide), _, _, rfl, rfl, (by show (0 : Int) < 1000; decide), ?_⟩⟩
    exact q _ (by omega) (by omega)
/-- the draws: their dict, its row -/
def dkv (r : Addr) (at' sd : Int) : List (Key × V) := [(.inr ("row" : Str), .ref r), (.inr ("at" : Str), .int at'), (.inr ("seed" : Str), .int sd)]
structure Draws (H : Hp) (d r : Addr) (at' sd : Int) (row : List Int) : Prop where
  d : H d = some (.dK (dkv r at' sd))
  r : H r = some (.lst (row.map V.int))
  at0 : 0 ≤ at'
  small : row.length ≤ 1000
theorem Draws.ne {H : Hp} {d r : Addr} {at' sd : Int} {row : List Int} (D : Draws H d r at' sd row) : d ≠ r := ne_of D.d D.r (by intro z; cases z)
theorem nk_row_at : ¬ (Sum.inr ("row" : Str) : Key) = Sum.inr ("at" : Str) := by decide +kernel
theorem nk_row_seed : ¬ (Sum.inr ("row" : Str) : Key) = Sum.inr ("seed" : Str) := by decide +kernel
theorem nk_at_seed : ¬ (Sum.inr ("at" : Str) : Key) = Sum.inr ("seed" : Str) := by decide +kernel
theorem nk_seed_at : ¬ (Sum.inr ("seed" : Str) : Key) = Sum.inr ("at" : Str) := by decide +kernel
theorem dkv_row (r : Addr) (a s : Int) : valV (dkv r a s) (.inr ("row" : Str)) = some (.ref r) := by
  unfold dkv; rw [valV_pos rfl]
theorem dkv_at (r : Addr) (a s : Int) : valV (dkv r a s) (.inr ("at" : Str)) = some (.int a) := by
  unfold dkv; rw [valV_neg nk_row_at, valV_pos rfl]
theorem dkv_seed (r : Addr) (a s : Int) : valV (dkv r a s) (.inr ("seed" : Str)) = some (.int s) := by
  unfold dkv; rw [valV_neg nk_row_seed, valV_neg nk_at_seed, valV_pos rfl]
theorem dkv_put (r : Addr) (a s b : Int) : putK (dkv r a s) (.inr ("at" : Str)) (.int b) = dkv r b s := by
  unfold putK dkv
  have h1 : ¬ ("row" : Str) = ("at" : Str) := by decide +kernel
  have h2 : ¬ ("seed" : Str) = ("at" : Str) := by decide +kernel
  simp [h1, h2]
/-- behind a pick: the same draws, one further -/
theorem Draws.next {H : Hp} {d r : Addr} {at' sd : Int} {row : List Int} (D : Draws H d r at' sd row) : Draws (upd H d (.dK (dkv r (at' + 1) sd))) d r (at' + 1) sd row :=
  ⟨upd_same, by rw [upd_ne D.ne.symm]; exact D.r, by have := D.at0; omega, D.small⟩
def sp__law_pick : Sp := fun vs H Q _ => ∃ (d r : Addr) (at' sd : Int) (row : List Int) (m : Nat), vs = [.ref d, .int m] ∧ Draws H d r at' sd row ∧ 0 < m ∧
  ∀ n : Nat, n < m → Q (.int n) (upd H d (.dK (dkv r (at' + 1) sd)))
theorem ok__law_pick {f : Addr} {fd : FuncData} (F : Fun K "_law_pick" "_law_pick" s__law_pick f fd) (hM : Has P w K mg base 1 "_law_mix" ["cell", "k"] sp__law_mix) (z_len : mg "len" = none) (z_int : mg "int" = none) :
    FnOk P w K mg base CX0 2 f fd ["draws", "many"] sp__law_pick := by
  obtain ⟨f1, fd1, G__law_mix, k__law_mix, b__law_mix, g__law_mix⟩ := hM
  refine F.ok sc__law_pick (fun vs H Q E h => ?_) (fun cdv A outer s H vs Q E hr h => ?_)
  · obtain ⟨_, _, _, _, _, _, rfl, _⟩ := h; rfl
  · obtain ⟨d, r, at', sd, row, m, rfl, D, hm, q⟩ := h
    have hu := hu_of hr
    have D2 := D.next
    refine ⟨_, (pss_cons (ps_set (i := 2) sc__law_pick.nd rfl (.inl rfl) (pe_dget hu (pv 0) pe_str (fun _ _ => rfl)))
      (pss_cons (ps_dput hu (pv 0) pe_str (pe_op op_add (pv 2) pe_int) rfl)
      (pss_cons (ps_set (i := 3) sc__law_pick.nd rfl (.inl rfl) (pe_call G__law_mix (hr.mono (by decide)) (by rfl) g__law_mix k__law_mix b__law_mix .nil pass0 (pa_cons (pe_dget hu (pv 0) pe_str (fun _ _ => rfl)) (pa_cons (pv 2) pa_nil))))
      (pss_cons (ps_if (pt_cmpR op_lt (pv 2) (pe_callB call_len_seq (by rfl) z_len PySem.boot_len (pa_cons (pe_dget hu (pv 0) pe_str (fun _ _ => rfl)) pa_nil)) (nomark _))
        (pss_one (ps_set (i := 3) sc__law_pick.nd rfl (.inl rfl) (pe_ix ix_list (pe_dget hu (pv 0) pe_str (fun _ _ => rfl)) (pv 2) (fun _ _ => rfl))))
        pss_nil)
      (pss_one (ps_ret (pe_op op_mod (pe_callTy call_int1 (by rfl) z_int (by decide +kernel) (pa_cons (pv 3) pa_nil)) (pv 1)))))))), ?_⟩
    have g1 : ∀ {H' : Hp} {a : Int}, H' d = some (.dK (dkv r a sd)) → DGet H' d (.str "at") (some (.int a)) := fun e => by
      have := DGet.k (k := Sum.inr ("at" : Str)) e; rwa [dkv_at] at this
    have g2 : ∀ {H' : Hp} {a : Int}, H' d = some (.dK (dkv r a sd)) → DGet H' d (.str "row") (some (.ref r)) := fun e => by
      have := DGet.k (k := Sum.inr ("row" : Str)) e; rwa [dkv_row] at this
    have g3 : ∀ {H' : Hp} {a : Int}, H' d = some (.dK (dkv r a sd)) → DGet H' d (.str "seed") (some (.int sd)) := fun e => by
      have := DGet.k (k := Sum.inr ("seed" : Str)) e; rwa [dkv_seed] at this
    have fin : ∀ (n : Int), ∃ v : V, ([some (.ref d), some (.int m), some (.int at'), some (.int n)] : L2.St)[3]? = some (some v) ∧ ((∃ i, [v] = [V.int i] ∧ ∃ v2 : V, ([some (.ref d), some (.int m), some (.int at'), some (.int n)] : L2.St)[1]? = some (some v2) ∧ ∃ a b : Int, V.int i = .int a ∧ v2 = .int b ∧ 0 < b ∧ Q (.int (a % b)) (upd H d (.dK (dkv r (at' + 1) sd)))) ∨ ∃ k, [v] = [V.bl k] ∧ ∃ v2 : V, ([some (.ref d), some (.int m), some (.int at'), some (.int n)] : L2.St)[1]? = some (some v2) ∧ ∃ a b : Int, V.int (if k then 1 else 0) = .int a ∧ v2 = .int b ∧ 0 < b ∧ Q (.int (a % b)) (upd H d (.dK (dkv r (at' + 1) sd)))) := fun n => by
      refine ⟨_, rfl, .inl ⟨n, rfl, _, rfl, n, m, rfl, rfl, by omega, ?_⟩⟩
      have h1 : 0 ≤ n % (m : Int) := Int.emod_nonneg _ (by omega)
      have h2 : n % (m : Int) < m := Int.emod_lt_of_pos _ (by omega)
      have := q (n % (m : Int)).toNat (by omega)
      rwa [Int.toNat_of_nonneg h1] at this
    refine ⟨_, rfl, d, _, rfl, g1 D.d, ?_⟩
    refine ⟨_, rfl, _, _, rfl, rfl, _, rfl, d, _, rfl, DPut.k (k := Sum.inr ("at" : Str)) D.d (by show 3 < sizeLine; decide), ?_⟩
    rw [dkv_put]
    refine ⟨_, rfl, d, _, rfl, g3 D2.d, _, rfl, sd, at', rfl, fun n0 hn0 hn1 => ?_⟩
    refine ⟨_, rfl, _, rfl, d, _, rfl, g2 D2.d, r, _, rfl, .inl (SqL.of D2.r), _, _, rfl, rfl, _, rfl, ?_⟩
    rw [List.length_map]
    by_cases hlt : at' < row.length
    · rw [decide_eq_true hlt]
      refine iteT ?_
      have h0 := D.at0
      have hi : at'.toNat < row.length := by omega
      refine ⟨_, rfl, d, _, rfl, g2 D2.d, _, rfl, r, _, at', .int row[at'.toNat], rfl, rfl, SqL.of D2.r, ?_, ?_⟩
      · have := atI_nat (xs := row.map V.int) (j := at'.toNat) (v := .int row[at'.toNat]) (by rw [List.getElem?_map, List.getElem?_eq_getElem hi]; rfl)
        rwa [Int.toNat_of_nonneg h0] at this
      exact fin _
    · rw [decide_eq_false hlt]
      refine iteF ?_
      exact fin _
end
end Ow
namespace Ow
open PySem PySem.Spec PyProof.Rows L2
section
variable {P : Program} {w : World} {K : PySem.W.Frag} {mg : Str → Option Value} {base : Heap}
def sp__law_stream (K : PySem.W.Frag) : Sp := fun vs H Q _ => ∃ (a : Addr) (ns : List Int) (m : Nat), vs = [.ref a, .int m] ∧ SqL K H a (ns.map V.int) ∧ ns.length ≤ 63 ∧ m ≤ 1000 ∧
  ∀ d r row H', row.length ≤ m → H d = none → H r = none → Same H H' → Draws H' d r 0 (row.length : Nat) row → Q (.ref d) H'
theorem ok__law_stream {f : Addr} {fd : FuncData} (F : Fun K "_law_stream" "_law_stream" s__law_stream f fd) (hM : Has P w K mg base 1 "_law_mix" ["cell", "k"] sp__law_mix) (z_len : mg "len" = none) (z_int : mg "int" = none) (z_min : mg "min" = none) (z_range : mg "range" = none) :
    FnOk P w K mg base CX0 2 f fd ["script", "most"] (sp__law_stream K) := by
  obtain ⟨f1, fd1, G__law_mix, k__law_mix, b__law_mix, g__law_mix⟩ := hM
  refine F.ok sc__law_stream (fun vs H Q E h => ?_) (fun cdv A outer s H vs Q E hr h => ?_)
  · obtain ⟨_, _, _, rfl, _⟩ := h; rfl
  · obtain ⟨a, ns, m, rfl, hS, hns, hm, q⟩ := h
    refine ⟨_, (pss_cons (ps_set (i := 2) sc__law_stream.nd rfl (.inl rfl) (pe_lst pa_nil))
      (pss_cons (ps_for PassesOwn.never rfl (pi_range1 (by rfl) z_range (pa_cons (pe_callB (call_min2 rfl) (by rfl) z_min (by decide +kernel) (pa_cons (pe_callB call_len_seq (by rfl) z_len PySem.boot_len (pa_cons (pv 0) pa_nil)) (pa_cons pe_int pa_nil))) pa_nil)) (pg_name (i := 3) sc__law_stream.nd rfl (.inl rfl))
        (pss_cons (ps_set (i := 4) sc__law_stream.nd rfl (.inl rfl) (pe_ix ix_list (pv 0) (pv 3) (fun _ _ => rfl)))
        (pss_one (ps_if (pt_cmpR op_ge (pv 4) (pe_op op_pow pe_int pe_int) (nomark _))
          (pss_one (ps_for PassesOwn.never rfl (pi_range1 (by rfl) z_range (pa_cons pe_int pa_nil)) (pg_name (i := 5) sc__law_stream.nd rfl (.inl rfl))
            (pss_one (ps_if (PW.pt (pw_and (pt_cmpR op_gt (pv 4) pe_int (nomark _)) (pw_and1 (pt_cmpR op_lt (pe_callB call_len_seq (by rfl) z_len PySem.boot_len (pa_cons (pv 2) pa_nil)) (pv 1) (nomark _)))))
              (pss_cons (ps_expr (pe_bm PySem.F.plainAttrs_list PySem.F.slot_list_append PySem.F.type_list_append mt_append (pv 2) (pa_cons (pe_op op_mod (pe_callTy call_int1 (by rfl) z_int (by decide +kernel) (pa_cons (pv 4) pa_nil)) pe_int) pa_nil)))
              (pss_one (ps_set (i := 4) sc__law_stream.nd rfl (.inl rfl) (pe_op op_fdiv (pv 4) pe_int))))
              pss_nil))))
          (pss_one (ps_for PassesOwn.never rfl (pi_range1 (by rfl) z_range (pa_cons pe_int pa_nil)) (pg_name (i := 5) sc__law_stream.nd rfl (.inl rfl))
            (pss_one (ps_if (pt_cmpR op_lt (pe_callB call_len_seq (by rfl) z_len PySem.boot_len (pa_cons (pv 2) pa_nil)) (pv 1) (nomark _))
              (pss_one (ps_expr (pe_bm PySem.F.plainAttrs_list PySem.F.slot_list_append PySem.F.type_list_append mt_append (pv 2) (pa_cons (pe_call G__law_mix (hr.mono (by decide)) (by rfl) g__law_mix k__law_mix b__law_mix .nil pass0 (pa_cons (pv 4) (pa_cons (pe_op op_add (pe_op op_mul pe_int (pv 5)) (pv 3)) pa_nil))) pa_nil))))
              pss_nil))))))))
      (pss_one (ps_ret (pe_disp (pps_cons pe_str (pv 2) (pps_cons pe_str pe_int (pps_cons pe_str (pe_callB call_len_seq (by rfl) z_len PySem.boot_len (pa_cons (pv 2) pa_nil)) pps_nil))) (by rfl) (by rfl) (fun z => by cases z) (by decide)))))), ?_⟩
    refine ⟨Nat.zero_le _, fun r nr => ?_⟩
    have s0 : Same H (upd H r (.lst [])) := same_upd nr
    refine ⟨_, rfl, _, _, rfl, .inl (s0.seq hS), _, _, rfl, ?_⟩
    rw [List.length_map]
    have hmin : (if (63 : Int) < (ns.length : Int) then (63 : Int) else (ns.length : Int)) = (ns.length : Int) := by rw [if_neg (by omega)]
    rw [hmin]
    -- what stands at each turn: the row so far
    let Ok : Hp → Prop := fun H1 => ∃ row : List Int, H1 r = some (.lst (row.map V.int)) ∧ row.length ≤ m ∧ Same H H1
    have grow : ∀ {H1 : Hp} {row : List Int} {x : Int}, H1 r = some (.lst (row.map V.int)) → row.length < m → Same H H1 → Ok (upd H1 r (.lst (row.map V.int ++ [.int x]))) := fun {H1 row x} h1 h2 h3 =>
      ⟨row ++ [x], by rw [upd_same, List.map_append]; rfl, by simp; omega, fun b o e => by rw [upd_ne (ne_of_none e nr)]; exact h3 b o e⟩
    refine ⟨(ns.length : Int), rfl, by omega, by omega, for_range (n := ns.length) (fun i σ H1 => ∃ y3 y4 y5, σ = [some (.ref a), some (.int m), some (.ref r), y3, y4, y5] ∧ Ok H1) ⟨none, none, none, rfl, [], upd_same, Nat.zero_le _, s0⟩ ?_ ?_⟩
    · rintro i σ H1 hi ⟨y3, y4, y5, rfl, row, h1, h2, h3⟩
      have hA : SqL K H1 a (ns.map V.int) := h3.seq hS
      refine ⟨_, rfl, _, rfl, a, _, _, .int (ns[i]), rfl, rfl, hA, ?_, ?_⟩
      · rw [Int.zero_add]
        exact atI_nat (by rw [List.getElem?_map, List.getElem?_eq_getElem hi]; rfl)
      refine ⟨_, rfl, _, _, rfl, rfl, ⟨by decide, by decide, by decide⟩, _, _, rfl, rfl, _, rfl, ite2 (fun hb => ?_) (fun hb => ?_)⟩
      · refine ⟨60, rfl, by decide, by decide, for_range (n := 60) (fun j σ H1 => ∃ y4 y5, σ = [some (.ref a), some (.int m), some (.ref r), some (.int (0 + (i : Int))), some (.int y4), y5] ∧ Ok H1) ⟨_, y5, rfl, row, h1, h2, h3⟩ ?_ ?_⟩
        · rintro j σ H2 hj ⟨y4, y5, rfl, row, g1, g2, g3⟩
          refine ⟨_, rfl, _, _, rfl, rfl, _, rfl, ite2 (fun c1 => ?_) (fun c1 => iteF ⟨y4, _, rfl, row, g1, g2, g3⟩)⟩
          refine ⟨_, rfl, _, _, rfl, .inl (SqL.of g1), _, rfl, _, _, rfl, rfl, _, rfl, ite2 (fun c2 => ?_) (fun c2 => ⟨y4, _, rfl, row, g1, g2, g3⟩)⟩
          have c2' : row.length < m := by
            have := of_decide_eq_true c2
            rw [List.length_map] at this
            omega
          refine ⟨_, rfl, .inl ⟨rfl, _, SqL.of g1⟩, _, rfl, .inl ⟨_, rfl, _, _, rfl, rfl, (by show (0 : Int) < 1000; decide), r, _, _, rfl, rfl, g1, ?_, ?_⟩⟩
          · rw [List.length_map]; exact small1000 (by omega)
          · exact ⟨_, rfl, _, _, rfl, rfl, ⟨by decide, by decide⟩, _, _, rfl, grow g1 c2' g3⟩
        · rintro σ H2 ⟨y4, y5, rfl, hok⟩
          exact ⟨_, _, _, rfl, hok⟩
      · refine ⟨3, rfl, by decide, by decide, for_range (n := 3) (fun j σ H1 => ∃ y5, σ = [some (.ref a), some (.int m), some (.ref r), some (.int (0 + (i : Int))), some (.int ns[i]), y5] ∧ Ok H1) ⟨y5, rfl, row, h1, h2, h3⟩ ?_ ?_⟩
        · rintro j σ H2 hj ⟨y5, rfl, row, g1, g2, g3⟩
          refine ⟨_, rfl, _, _, rfl, .inl (SqL.of g1), _, rfl, _, _, rfl, rfl, _, rfl, ite2 (fun c2 => ?_) (fun c2 => ⟨_, rfl, row, g1, g2, g3⟩)⟩
          have c2' : row.length < m := by
            have := of_decide_eq_true c2
            rw [List.length_map] at this
            omega
          refine ⟨_, rfl, .inl ⟨rfl, _, SqL.of g1⟩, _, rfl, _, rfl, _, _, rfl, rfl, .inl ⟨by decide, by decide⟩, _, rfl, _, _, rfl, rfl, _, _, rfl, fun n hn0 hn1 => ?_⟩
          refine ⟨r, _, _, rfl, rfl, g1, ?_, ?_⟩
          · rw [List.length_map]; exact small1000 (by omega)
          · exact ⟨_, rfl, grow g1 c2' g3⟩
        · rintro σ H2 ⟨y5, rfl, hok⟩
          exact ⟨_, _, _, rfl, hok⟩
    · rintro σ H1 ⟨y3, y4, y5, rfl, row, h1, h2, h3⟩
      refine fun d nd => ?_
      have ndr : d ≠ r := fun e => by rw [e, h1] at nd; cases nd
      have h1' : ∀ o, (upd H1 d o) r = some (.lst (row.map V.int)) := fun o => by rw [upd_ne ndr.symm]; exact h1
      refine ⟨_, rfl, _, rfl, _, _, rfl, .inl (SqL.of (h1' _)), upd_same, dkv r 0 (row.map V.int).length, rfl, (by show 3 ≤ 15; decide), ?_⟩
      have e1 : mergeK [] (dkv r 0 (row.map V.int).length) = dkv r 0 row.length := by
        rw [List.length_map]
        show putK (putK (putK [] (Sum.inr ("row" : Str) : Key) (V.ref r)) (Sum.inr ("at" : Str)) (V.int 0)) (Sum.inr ("seed" : Str)) (V.int (row.length : Nat)) = _
        have p1 : putK ([] : List (Key × V)) (Sum.inr ("row" : Str)) (V.ref r) = [(Sum.inr ("row" : Str), V.ref r)] := rfl
        rw [p1, putK_new (kvs := [(Sum.inr ("row" : Str), V.ref r)]) _ (by rw [valV_neg nk_row_at, valV_nil])]
        rw [putK_new (kvs := [(Sum.inr ("row" : Str), V.ref r)] ++ [(Sum.inr ("at" : Str), V.int 0)]) _ (by rw [List.singleton_append, valV_neg nk_row_seed, valV_neg nk_at_seed, valV_nil])]
        rfl
      rw [e1]
      refine q d r row _ h2 (h3.free nd) nr (fun b o e => ?_) ⟨upd_same, by rw [upd_ne ndr.symm, upd_ne ndr.symm]; exact h1, by decide, by omega⟩
      have nb : b ≠ d := ne_of_none (h3 _ _ e) nd
      rw [upd_ne nb, upd_ne nb]
      exact h3 _ _ e
end
end Ow
namespace Ow
open PySem PySem.Spec PyProof.Rows L2
section
variable {P : Program} {w : World} {K : PySem.W.Frag} {mg : Str → Option Value} {base : Heap}
/-- a pick out of a list of texts -/
theorem pick_str {xs : List Str} {n : Nat} (h : n < xs.length) : ∃ x, x ∈ xs ∧ atI (xs.map V.str) (n : Int) = some (.str x) :=
  ⟨xs[n], List.getElem_mem h, atI_nat (by rw [List.getElem?_map, List.getElem?_eq_getElem h]; rfl)⟩
/-- draws stay where nothing of theirs is written -/
theorem Draws.same {H H' : Hp} {d r : Addr} {at' sd : Int} {row : List Int} (D : Draws H d r at' sd row) (s : Same H H') : Draws H' d r at' sd row := ⟨s _ _ D.d, s _ _ D.r, D.at0, D.small⟩
/-- behind some picks -/
structure Later (H H' : Hp) (d r : Addr) (sd : Int) (row : List Int) : Prop where
  dr : ∃ at', Draws H' d r at' sd row
  st : ∀ b o, b ≠ d → H b = some o → H' b = some o
theorem Later.upd {H H' : Hp} {d r p : Addr} {sd : Int} {row : List Int} {o : HO} (l : Later H H' d r sd row) (np : H' p = none) : Later H (upd H' p o) d r sd row :=
  let ⟨a, D⟩ := l.dr
  ⟨⟨a, D.same (same_upd np)⟩, fun b o' hb e => same_upd np _ _ (l.st b o' hb e)⟩
theorem Later.pick {H H' : Hp} {d r : Addr} {sd a : Int} {row : List Int} (D : Draws H' d r a sd row) (l : ∀ b o, b ≠ d → H b = some o → H' b = some o) : Later H (L2.upd H' d (.dK (dkv r (a + 1) sd))) d r sd row :=
  ⟨⟨_, D.next⟩, fun b o hb e => by rw [upd_ne hb]; exact l b o hb e⟩
theorem Later.free {H H' : Hp} {d r p : Addr} {sd a : Int} {row : List Int} (D : Draws H d r a sd row) (l : Later H H' d r sd row) (np : H' p = none) : H p = none := by
  cases e : H p with
  | none => rfl
  | some o =>
    by_cases hb : p = d
    · subst hb
      obtain ⟨_, D'⟩ := l.dr
      rw [D'.d] at np; cases np
    · rw [l.st p o hb e] at np; cases np
end
end Ow
namespace Ow
open PySem L2
def cd (x : Str) : List Nat := x.cps.toList
theorem S_cd (x : Str) : S (cd x) = x := (S_of x).symm
theorem cd_len (x : Str) : (cd x).length = x.length := by simp [cd, Str.length]
def skB : Bool → List Nat → Bool
  | false, [] => true
  | true, [] => false
  | false, c :: r => if c = 10 then skB false r else if c = 32 then skB false r else if c = 35 then skB true r else false
  | true, c :: r => if c = 10 then skB false r else skB true r
theorem skB_spec : ∀ x : List Nat, (skB false x = true → ∀ pre s ts e, Scan (pre ++ x) s ts e → Scan pre (x ++ s) ts e) ∧
    (skB true x = true → ∀ pre c s ts e, 10 ∉ c → Scan (pre ++ 35 :: (c ++ x)) s ts e → Scan pre (35 :: (c ++ (x ++ s))) ts e)
  | [] => ⟨fun _ pre s ts e h => by simpa using h, fun h => by simp [skB] at h⟩
  | c :: r => by
    obtain ⟨i1, i2⟩ := skB_spec r
    constructor
    · intro h pre s ts e ht
      unfold skB at h
      by_cases h10 : c = 10
      · subst h10
        rw [if_pos rfl] at h
        exact Scan.nl (i1 h (pre ++ [10]) s ts e (by simpa using ht))
      rw [if_neg h10] at h
      by_cases h32 : c = 32
      · subst h32
        rw [if_pos rfl] at h
        exact Scan.sp (i1 h (pre ++ [32]) s ts e (by simpa using ht))
      rw [if_neg h32] at h
      by_cases h35 : c = 35
      · subst h35
        rw [if_pos rfl] at h
        exact i2 h pre [] s ts e (by simp) (by simpa using ht)
      · rw [if_neg h35] at h; cases h
    · intro h pre cc s ts e hc ht
      unfold skB at h
      by_cases h10 : c = 10
      · subst h10
        rw [if_pos rfl] at h
        refine Scan.cm cc hc (.inr ⟨_, rfl⟩) (Scan.nl (i1 h _ s ts e ?_))
        simpa using ht
      · rw [if_neg h10] at h
        have := i2 h pre (cc ++ [c]) s ts e (by simp; exact ⟨hc, fun e => h10 e.symm⟩) (by simpa using ht)
        simpa using this
theorem skip {x : List Nat} (h : skB false x = true) {pre s : List Nat} {ts : List Tk} {e : Option (Bool × Int × Int)} (t : Scan (pre ++ x) s ts e) : Scan pre (x ++ s) ts e := (skB_spec x).1 h pre s ts e t
def bset : List Nat := [10, 32, 35, 123, 125, 40, 41, 91, 93, 44, 59, 43, 42, 58, 46]
def Aft (s : List Nat) : Prop := s = [] ∨ ∃ c r, s = c :: r ∧ c ∈ bset
theorem Bd_of {s : List Nat} (h : Aft s) : Bd s := by
  intro c r e
  rcases h with h | ⟨c', r', e', hm⟩
  · rw [h] at e; cases e
  · rw [e'] at e; cases e
    have : ∀ c ∈ bset, isW c = false := by decide
    exact this c hm
def mayP (x w : List Nat) : Bool := if x.length ≤ w.length then decide (x <+: w) else (decide (w <+: x) && decide (x.getD w.length 0 ∈ bset))
theorem mayP_of {x w s : List Nat} (hs : Aft s) (h : x <+: w ++ s) : mayP x w = true := by
  unfold mayP
  by_cases hl : x.length ≤ w.length
  · rw [if_pos hl]
    exact decide_eq_true (List.prefix_of_prefix_length_le h (List.prefix_append w s) hl)
  · rw [if_neg hl]
    have hw : w <+: x := List.prefix_of_prefix_length_le (List.prefix_append w s) h (by omega)
    rw [decide_eq_true hw, Bool.true_and]
    obtain ⟨t, rfl⟩ := hw
    have ht : t <+: s := (List.prefix_append_right_inj w).mp h
    cases t with
    | nil => simp at hl
    | cons a t' =>
      obtain ⟨u, hu⟩ := ht
      rcases hs with rfl | ⟨c, r, rfl, hm⟩
      · cases hu
      · have e : a = c := by simpa using congrArg List.head? hu
        subst e
        refine decide_eq_true ?_
        have : (w ++ a :: t').getD w.length 0 = a := by simp [List.getD]
        rw [this]; exact hm
theorem noPre {i : Nat} {w s : List Nat} {f : List Nat → List Nat → Bool} (hf : ∀ x, x <+: w ++ s → f x w = true) (h : (signs.take i).all (fun x => !f x w) = true) : ∀ j x, j < i → signs[j]? = some x → ¬ x <+: w ++ s := by
  intro j x hj hx hp
  have hm : x ∈ signs.take i := List.mem_of_getElem? (i := j) (by rw [List.getElem?_take_of_lt hj]; exact hx)
  have := List.all_eq_true.mp h x hm
  rw [hf x hp] at this
  cases this
def signB (f : List Nat → List Nat → Bool) (i : Nat) (w : List Nat) : Bool := match w with
  | [] => false
  | c :: r => !isL c && (!isD c && (decide (c ≠ 10) && (decide (c ≠ 32) && (decide (c ≠ 35) && (decide (signs[i]? = some (c :: r)) && (signs.take i).all (fun x => !f x (c :: r)))))))
theorem signB_spec {f : List Nat → List Nat → Bool} {i : Nat} {w s : List Nat} (h : signB f i w = true) (hf : ∀ x, x <+: w ++ s → f x w = true) : TokW "sign" w s := by
  unfold signB at h
  cases w with
  | nil => cases h
  | cons c r =>
    simp only [Bool.and_eq_true] at h
    obtain ⟨h1, h2, h3, h4, h5, h6, h7⟩ := h
    exact .sign i c r s (by simpa using h1) (by simpa using h2) (of_decide_eq_true h3) (of_decide_eq_true h4) (of_decide_eq_true h5) (of_decide_eq_true h6) (noPre hf h7)
def placeOf (w : List Nat) : Nat := (signs.findIdx (· == w))
/-- a good word, whatever it is, ahead of what may stand behind it -/
def goodB (x : Str) : Bool := match cd x with
  | [] => false
  | c :: r => (isL c && r.all isW) || ((!isL c && (isD c && (r.all isD && (decide (r.length ≤ 9) && ((r.isEmpty || decide (c ≠ 48)) && (match PySem.intText? x with | some n => decide (n ≤ 4294967295) | none => false)))))) || signB mayP (placeOf (c :: r)) (c :: r))
theorem goodB_spec {x : Str} (h : goodB x = true) {s : List Nat} (ha : Aft s) : ∃ k, TokW k (cd x) s := by
  have hS := S_cd x
  unfold goodB at h
  cases hc : cd x with
  | nil => rw [hc] at h; cases h
  | cons c r =>
    rw [hc] at h hS
    simp only [Bool.or_eq_true] at h
    rcases h with h | h | h
    · have h1 := Bool.and_eq_true_iff.mp h
      exact ⟨_, .word c r s h1.1 (fun y hy => List.all_eq_true.mp h1.2 y hy) (Bd_of ha)⟩
    · simp only [Bool.and_eq_true, Bool.or_eq_true, decide_eq_true_eq] at h
      obtain ⟨a1, a2, a3, a4, a5, a6⟩ := h
      refine ⟨_, .num c r s (by simpa using a1) a2 ⟨?_, ?_, ?_, ?_⟩ (Bd_of ha)⟩
      · intro z hz
        rcases List.mem_cons.mp hz with rfl | hz
        · exact a2
        · exact List.all_eq_true.mp a3 z hz
      · rintro ⟨b1, b2⟩
        rcases a5 with a5 | a5
        · have : r = [] := by simpa using a5
          subst this; simp at b1
        · exact a5 (by simpa using b2)
      · simp; omega
      · rw [hS]
        cases hi : PySem.intText? x with
        | none => rw [hi] at a6; cases a6
        | some n => rw [hi] at a6; exact ⟨n, rfl, of_decide_eq_true a6⟩
    · exact ⟨_, signB_spec h fun z hz => mayP_of ha hz⟩
def goods : List Str := ["a", "go_", "10", "record", "return", "==", "->", "*", ".", "(", "]", ",", "x_1", "4294967295", "0", "!"]
def badC : List Str := ["_", "'", "$", "~", "@", ">", ">=", "&", "_a", "|", "|a", "/", "/x", "'a'", "@=", "$1"]
def badN : List Str := ["01", "00", "1a", "2_", "3_4", "4294967296", "99999999999999999999", "0x", "7A", "10let"]
def betweens : List Str := [" ", "\n", "  ", "\n # _ 01 @ > !\n", " #\n  "]
theorem goods_ok : ∀ x ∈ goods, goodB x = true ∧ (cd x).length ≤ 20 := by decide +kernel
theorem betweens_ok : ∀ x ∈ betweens, skB false (cd x) = true ∧ (match cd x with | [] => false | c :: _ => decide (c ∈ bset)) = true ∧ (cd x).length ≤ 20 := by decide +kernel
theorem badC_ok : ∀ x ∈ badC, (match cd x with | [] => false | c :: _ => !isL c && (!isD c && (decide (c ≠ 10) && (decide (c ≠ 32) && (decide (c ≠ 35) && signs.all (fun y => decide (y.head? ≠ some c) && !y.isEmpty)))))) = true ∧ (cd x).length ≤ 20 := by decide +kernel
theorem badN_ok : ∀ x ∈ badN, (match cd x with | [] => false | c :: r => !isL c && (isD c && (r.all isW && (numS (c :: r) && !numB (c :: r))))) = true ∧ (cd x).length ≤ 20 := by decide +kernel
theorem badC_bad {x : Str} (h : x ∈ badC) (s : List Nat) : BadW false (cd x ++ s) := by
  have h1 := (badC_ok x h).1
  cases hc : cd x with
  | nil => rw [hc] at h1; cases h1
  | cons c r =>
    rw [hc] at h1
    simp only [Bool.and_eq_true] at h1
    obtain ⟨a1, a2, a3, a4, a5, a6⟩ := h1
    refine .chr c (r ++ s) (by simpa using a1) (by simpa using a2) (of_decide_eq_true a3) (of_decide_eq_true a4) (of_decide_eq_true a5) fun y hy hp => ?_
    have hb := Bool.and_eq_true_iff.mp (List.all_eq_true.mp a6 y hy)
    cases y with
    | nil => simp at hb
    | cons b t =>
      obtain ⟨u, hu⟩ := hp
      have e : b = c := by simpa using congrArg List.head? hu
      subst e
      simp at hb
theorem badN_bad {x : Str} (h : x ∈ badN) {s : List Nat} (ha : Aft s) : BadW true (cd x ++ s) := by
  have h1 := (badN_ok x h).1
  cases hc : cd x with
  | nil => rw [hc] at h1; cases h1
  | cons c r =>
    rw [hc] at h1
    simp only [Bool.and_eq_true] at h1
    obtain ⟨a1, a2, a3, a4, a5⟩ := h1
    exact .num c r s (by simpa using a1) a2 (fun y hy => List.all_eq_true.mp a3 y hy) (Bd_of ha) a4 (by simpa using a5)
/-- a good beginning of so many words -/
def GoodT (t : List Nat) (n : Nat) : Prop := ∀ s ts e, Scan t s ts e → ∃ ts', ts'.length = n ∧ Scan [] (t ++ s) (ts' ++ ts) e
theorem GoodT.start : GoodT [] 0 := fun s ts e h => ⟨[], rfl, h⟩
theorem Aft.of {x : List Nat} (s : List Nat) (h : (match x with | [] => false | c :: _ => decide (c ∈ bset)) = true) : Aft (x ++ s) := by
  cases x with
  | nil => cases h
  | cons c r => exact .inr ⟨c, r ++ s, rfl, of_decide_eq_true h⟩
theorem GoodT.more {t : List Nat} {n : Nat} {x y : Str} (g : GoodT t n) (hx : x ∈ goods) (hy : y ∈ betweens) : GoodT (t ++ cd x ++ cd y) (n + 1) := by
  intro s ts e h
  obtain ⟨b1, b2, _⟩ := betweens_ok y hy
  obtain ⟨k, tw⟩ := goodB_spec (goods_ok x hx).1 (Aft.of s b2)
  obtain ⟨ts', hl, h2⟩ := g _ _ _ (Scan.tk tw (skip b1 (pre := t ++ cd x) h))
  refine ⟨ts' ++ [(k, S (cd x), rowOf t, colOf t)], by simp [hl], ?_⟩
  simpa using h2
end Ow
namespace Ow
open PySem PySem.Spec PyProof.Rows L2
/-- the classes of errors as isinstance and except see them -/
structure ErrKin (K : PySem.W.Frag) (mg : Str → Option Value) (CO CT CC CN CU : Addr) : Prop where
  gO : mg "OwnerError" = some (.ref CO)
  gT : mg "TextError" = some (.ref CT)
  gU : mg "Unexpected" = some (.ref CU)
  xC : XfC K CC
  xN : XfC K CN
  kC : CaughtC K CC
  kN : CaughtC K CN
  eCC : PySem.W.exmOne K (.ref CC) (.ref CC) = some true
  eNC : PySem.W.exmOne K (.ref CN) (.ref CC) = some false
  eNN : PySem.W.exmOne K (.ref CN) (.ref CN) = some true
  iCT : PySem.W.kitOne K (.ref CC) (.ref CT) = some true
  iCA : PySem.W.kitAny K (.ref CC) [.ref CN, .ref CU] = some false
  iNU : PySem.W.kitOne K (.ref CN) (.ref CU) = some false
  iNT : PySem.W.kitOne K (.ref CN) (.ref CT) = some true
  iNO : PySem.W.kitOne K (.ref CN) (.ref CO) = some true
def rLenS (K : PySem.W.Frag) : List V → Hp → VK → Prop := fun xs H Q => ∃ p ys, xs = [.ref p] ∧ (SqL K H p ys ∨ SqT K H p ys) ∧ Q (.int ys.length) H
theorem call_lenK {X : Cx} {K : PySem.W.Frag} (h : X.K = K) : CallR X (.builtin "len") (rLenS K) := by subst h; exact call_len_seq
def toldV (ts : List Tk) : Option (Bool × Int × Int) → List V
  | none => [.str "tokens", .int (ts.length : Nat)]
  | some (b, r, c) => [.str (if b then "number" else "character"), .int r, .int c, .bl false, .bl true]
section
variable {P : Program} {w : World} {K : PySem.W.Frag} {mg : Str → Option Value} {base : Heap}
def sp__law_told : Sp := fun vs H Q _ => ∃ (l : List Nat) (ts : List Tk) (er : Option (Bool × Int × Int)), vs = [.str (S l)] ∧ l.length ≤ 1000000 ∧ Scan [] l ts er ∧ ∀ H' p, Same H H' → H p = none → H' p = some (.tup (toldV ts er)) → Q (.ref p) H'
theorem xd_ne {fs : List (Str × V)} {xs : List V} : HO.xd fs ≠ HO.tup xs := by intro z; cases z
theorem look_row (x : Str) (r c : Int) : (errF x r c).lookup ("row" : Str) = some (.int r) := by
  unfold errF
  rw [List.lookup_cons, show (("row" : Str) == ("column" : Str)) = false by decide +kernel]
  simp
theorem look_col (x : Str) (r c : Int) : (errF x r c).lookup ("column" : Str) = some (.int c) := by
  unfold errF
  simp
theorem ok__law_told {f : Addr} {fd : FuncData} {fI CO CT CC CN CU : Addr} (F : Fun K "_law_told" "_law_told" s__law_told f fd) (hT : HasX P w K mg base 4 "tokens" ["text"] (sp_tokensX CN CC)) (eC : ErrC K mg fI "BadCharacter" CC) (eN : ErrC K mg fI "BadNumber" CN)
    (Kn : ErrKin K mg CO CT CC CN CU) (z_len : mg "len" = none) (z_isinstance : mg "isinstance" = none) : FnOk P w K mg base CX0 5 f fd ["text"] sp__law_told := by
  obtain ⟨f2, fd2, G_tokens, k_tokens, b_tokens, g_tokens⟩ := hT
  refine F.ok sc__law_told (fun vs H Q E h => ?_) (fun cdv A outer s H vs Q E hr h => ?_)
  · obtain ⟨_, _, _, rfl, _⟩ := h; rfl
  · obtain ⟨l, ts, er, rfl, hl, sc, q⟩ := h
    refine ⟨_, pss_one (ps_try_clauses (Wout := fun _ _ _ _ => False) rfl rfl sc__law_told.nd takes0
      (fun W pn xe tk _ => pss_one (ps_ret (pe_tup (pa_cons pe_str (pa_cons (pe_callB (call_lenK (K := K) rfl) (by rfl) z_len PySem.boot_len (pa_cons (pe_callS G_tokens (hr.mono (by decide)) (by rfl) g_tokens k_tokens b_tokens (fun σ => passAt tk σ) (pa_cons (pv 0) pa_nil)) pa_nil)) pa_nil)))))
      (.more (i := 1) rfl rfl ⟨by rfl, by decide, .inl eC.g⟩ (fun a oe cls d pn hz hf => pss_one (ps_ret (pe_tup (pa_cons pe_str (pa_cons (pe_xf Kn.xC eC.nr hz hf (pv 1)) (pa_cons (pe_xf Kn.xC eC.nc hz hf (pv 1))
          (pa_cons (pe_callB (call_isDT (K := K) rfl hz hf) (by rfl) z_isinstance (by decide +kernel) (pa_cons (pv 1) (pa_cons (pe_tup (pa_cons (pe_glob rfl eN.g rv_ref) (pa_cons (pe_glob rfl Kn.gU rv_ref) pa_nil))) pa_nil)))
          (pa_cons (pe_callB (call_isD (K := K) rfl hz hf) (by rfl) z_isinstance (by decide +kernel) (pa_cons (pv 1) (pa_cons (pe_glob rfl Kn.gT rv_ref) pa_nil))) pa_nil)))))))) (.more (i := 1) rfl rfl ⟨by rfl, by decide, .inl eN.g⟩ (fun a oe cls d pn hz hf => pss_one (ps_ret (pe_tup (pa_cons pe_str (pa_cons (pe_xf Kn.xN eN.nr hz hf (pv 1)) (pa_cons (pe_xf Kn.xN eN.nc hz hf (pv 1))
          (pa_cons (pe_callB (call_isD (K := K) rfl hz hf) (by rfl) z_isinstance (by decide +kernel) (pa_cons (pv 1) (pa_cons (pe_glob rfl Kn.gU rv_ref) pa_nil)))
          (pa_cons (pe_and (pe_callB (call_isD (K := K) rfl hz hf) (by rfl) z_isinstance (by decide +kernel) (pa_cons (pv 1) (pa_cons (pe_glob rfl Kn.gT rv_ref) pa_nil))) (pe_one (pe_callB (call_isD (K := K) rfl hz hf) (by rfl) z_isinstance (by decide +kernel) (pa_cons (pv 1) (pa_cons (pe_glob rfl Kn.gO rv_ref) pa_nil))))) pa_nil)))))))) .nil))), ?_⟩
    refine ⟨_, rfl, l, ts, er, rfl, hl, sc, ?_, ?_⟩
    · rintro rfl H1 p pps s1 np hp htl
      refine ⟨p, _, rfl, .inl (SqL.of hp), by show 2 ≤ sizeLine; decide, fun p2 np2 => ?_⟩
      have el : (pps.map V.ref).length = ts.length := by rw [List.length_map]; exact Paired.length htl
      rw [el]
      exact q _ p2 (fun b o e => same_upd np2 _ _ (s1 _ _ e)) (s1.free np2) upd_same
    · rintro b r c rfl d H1 s1 hd
      cases b with
      | false =>
        refine ⟨true, Kn.eCC, fun _ a na => ?_, (fun z => by cases z)⟩
        have nda : ∀ p, H1 p = none → d ≠ p := fun p np => ne_of_none hd np
        refine ⟨_, rfl, rfl, rfl, d, _, _, rfl, hd, look_row _ r c, _, rfl, rfl, rfl, d, _, _, rfl, hd, look_col _ r c, _, rfl, by show 2 ≤ sizeLine; decide, fun p np => ?_⟩
        refine ⟨CC, d, p, _, [.ref CN, .ref CU], false, _, rfl, rfl, rfl, Kn.kC, upd_same, .cons (.own _) (.cons (.own _) .nil), by rw [upd_ne (nda p np)]; exact hd, Kn.iCA, ?_⟩
        refine ⟨_, rfl, CC, d, _, _, true, _, rfl, rfl, rfl, Kn.kC, .own _, by rw [upd_ne (nda p np)]; exact hd, Kn.iCT, by show 5 ≤ sizeLine; decide, fun p2 np2 => ?_⟩
        have s2 := same_upd (o := .tup [.ref CN, .ref CU]) np
        exact q _ p2 (fun b o e => same_upd np2 _ _ (s2 _ _ (s1 _ _ e))) (s1.free (s2.free np2)) upd_same
      | true =>
        refine ⟨false, Kn.eNC, (fun z => by cases z), fun _ => ⟨true, Kn.eNN, fun _ a na => ?_, (fun z => by cases z)⟩⟩
        refine ⟨_, rfl, rfl, rfl, d, _, _, rfl, hd, look_row _ r c, _, rfl, rfl, rfl, d, _, _, rfl, hd, look_col _ r c, ?_⟩
        refine ⟨_, rfl, CN, d, _, _, false, _, rfl, rfl, rfl, Kn.kN, .own _, hd, Kn.iNU, ?_⟩
        refine ⟨_, rfl, CN, d, _, _, true, _, rfl, rfl, rfl, Kn.kN, .own _, hd, Kn.iNT, true, rfl, iteT ?_⟩
        refine ⟨_, rfl, CN, d, _, _, true, _, rfl, rfl, rfl, Kn.kN, .own _, hd, Kn.iNO, by show 5 ≤ sizeLine; decide, fun p2 np2 => ?_⟩
        exact q _ p2 (fun b o e => same_upd np2 _ _ (s1 _ _ e)) (s1.free np2) upd_same
end
end Ow
namespace Ow
open PySem PySem.Spec PyProof.Rows L2
section
variable {P : Program} {w : World} {K : PySem.W.Frag} {mg : Str → Option Value} {base : Heap}
/-- the choice out of a list of texts that stands at p -/
theorem choose {H0 H1 : Hp} {d r p : Addr} {sd : Int} {row : List Int} {xs : List Str} {c : Int} {Q : VK} (l : Later H0 H1 d r sd row) (hp : H1 p = some (.lst (xs.map V.str))) (hc : c = ((xs.length : Nat) : Int)) (h0 : 0 < xs.length)
    (q : ∀ x H', x ∈ xs → Later H0 H' d r sd row → Q (.str x) H') : sp__law_pick [.ref d, .int c] H1 (fun y H2 => rIxL K (.ref p) y H2 Q) E0 := by
  subst hc
  obtain ⟨a1, D1⟩ := l.dr
  refine ⟨d, r, a1, sd, row, xs.length, rfl, D1, h0, fun n hn => ?_⟩
  obtain ⟨x, hxm, hxa⟩ := pick_str hn
  have npd : p ≠ d := ne_of hp D1.d (by intro z; cases z)
  exact ⟨p, _, n, .str x, rfl, rfl, SqL.of (by rw [upd_ne npd]; exact hp), hxa, q x _ hxm (Later.pick D1 l.st)⟩
theorem Later.refl {H : Hp} {d r : Addr} {sd a : Int} {row : List Int} (D : Draws H d r a sd row) : Later H H d r sd row := ⟨⟨a, D⟩, fun _ _ _ e => e⟩
def sp__law_good : Sp := fun vs H Q _ => ∃ (d r : Addr) (a sd : Int) (row : List Int), vs = [.ref d] ∧ Draws H d r a sd row ∧ ∀ x H', x ∈ goods → Later H H' d r sd row → Q (.str x) H'
theorem ok__law_good {f : Addr} {fd : FuncData} (F : Fun K "_law_good" "_law_good" s__law_good f fd) (hP : Has P w K mg base 2 "_law_pick" ["draws", "many"] sp__law_pick) : FnOk P w K mg base CX0 3 f fd ["draws"] sp__law_good := by
  obtain ⟨f1, fd1, G__law_pick, k__law_pick, b__law_pick, g__law_pick⟩ := hP
  refine F.ok sc__law_good (fun vs H Q E h => ?_) (fun cdv A outer s H vs Q E hr h => ?_)
  · obtain ⟨_, _, _, _, _, rfl, _⟩ := h; rfl
  · obtain ⟨d, r, a, sd, row, rfl, D, q⟩ := h
    refine ⟨_, (pss_cons (ps_set (i := 1) sc__law_good.nd rfl (.inl rfl) (pe_lst (pa_strs (xs := goods) (by rfl))))
      (pss_one (ps_ret (pe_ix ix_list (pv 1) (pe_call G__law_pick (hr.mono (by decide)) (by rfl) g__law_pick k__law_pick b__law_pick .nil pass0 (pa_cons (pv 0) (pa_cons pe_int pa_nil))) (fun _ _ => rfl))))), ?_⟩
    refine ⟨by decide, fun p np => ⟨_, rfl, _, rfl, choose ((Later.refl D).upd np) upd_same rfl (by decide) q⟩⟩
def sp__law_between : Sp := fun vs H Q _ => ∃ (d r : Addr) (a sd : Int) (row : List Int), vs = [.ref d] ∧ Draws H d r a sd row ∧ ∀ x H', x ∈ betweens → Later H H' d r sd row → Q (.str x) H'
theorem ok__law_between {f : Addr} {fd : FuncData} (F : Fun K "_law_between" "_law_between" s__law_between f fd) (hP : Has P w K mg base 2 "_law_pick" ["draws", "many"] sp__law_pick) : FnOk P w K mg base CX0 3 f fd ["draws"] sp__law_between := by
  obtain ⟨f1, fd1, G__law_pick, k__law_pick, b__law_pick, g__law_pick⟩ := hP
  refine F.ok sc__law_between (fun vs H Q E h => ?_) (fun cdv A outer s H vs Q E hr h => ?_)
  · obtain ⟨_, _, _, _, _, rfl, _⟩ := h; rfl
  · obtain ⟨d, r, a, sd, row, rfl, D, q⟩ := h
    refine ⟨_, (pss_one (ps_ret (pe_ix ix_list (pe_lst (pa_strs (xs := betweens) (by rfl))) (pe_call G__law_pick (hr.mono (by decide)) (by rfl) g__law_pick k__law_pick b__law_pick .nil pass0 (pa_cons (pv 0) (pa_cons pe_int pa_nil))) (fun _ _ => rfl)))), ?_⟩
    refine ⟨by decide, fun p np => ⟨_, rfl, choose ((Later.refl D).upd np) upd_same rfl (by decide) q⟩⟩
def isBad (k : Str) (b : Bool) (x : Str) : Prop := k = (if b then ("number" : Str) else ("character" : Str)) ∧ (if b then x ∈ badN else x ∈ badC)
def sp__law_bad : Sp := fun vs H Q _ => ∃ (d r : Addr) (a sd : Int) (row : List Int), vs = [.ref d] ∧ Draws H d r a sd row ∧ ∀ p k b x H', isBad k b x → Later H H' d r sd row → H p = none → H' p = some (.tup [.str k, .str x]) → Q (.ref p) H'
theorem ok__law_bad {f : Addr} {fd : FuncData} (F : Fun K "_law_bad" "_law_bad" s__law_bad f fd) (hP : Has P w K mg base 2 "_law_pick" ["draws", "many"] sp__law_pick) : FnOk P w K mg base CX0 3 f fd ["draws"] sp__law_bad := by
  obtain ⟨f1, fd1, G__law_pick, k__law_pick, b__law_pick, g__law_pick⟩ := hP
  refine F.ok sc__law_bad (fun vs H Q E h => ?_) (fun cdv A outer s H vs Q E hr h => ?_)
  · obtain ⟨_, _, _, _, _, rfl, _⟩ := h; rfl
  · obtain ⟨d, r, a, sd, row, rfl, D, q⟩ := h
    refine ⟨_, (pss_cons (ps_if (pt_cmpR op_eq (pe_call G__law_pick (hr.mono (by decide)) (by rfl) g__law_pick k__law_pick b__law_pick .nil pass0 (pa_cons (pv 0) (pa_cons pe_int pa_nil))) pe_int (nomark _))
        (pss_cons (ps_set (i := 1) sc__law_bad.nd rfl (.inl rfl) (pe_lst (pa_strs (xs := badC) (by rfl))))
        (pss_one (ps_ret (pe_tup (pa_cons pe_str (pa_cons (pe_ix ix_list (pv 1) (pe_call G__law_pick (hr.mono (by decide)) (by rfl) g__law_pick k__law_pick b__law_pick .nil pass0 (pa_cons (pv 0) (pa_cons pe_int pa_nil))) (fun _ _ => rfl)) pa_nil))))))
        pss_nil)
      (pss_cons (ps_set (i := 2) sc__law_bad.nd rfl (.inl rfl) (pe_lst (pa_strs (xs := badN) (by rfl))))
      (pss_one (ps_ret (pe_tup (pa_cons pe_str (pa_cons (pe_ix ix_list (pv 2) (pe_call G__law_pick (hr.mono (by decide)) (by rfl) g__law_pick k__law_pick b__law_pick .nil pass0 (pa_cons (pv 0) (pa_cons pe_int pa_nil))) (fun _ _ => rfl)) pa_nil))))))), ?_⟩
    refine ⟨_, rfl, d, r, a, sd, row, 2, rfl, D, by decide, fun n hn => ?_⟩
    have l1 := Later.pick (H := H) D fun b o _ e => e
    refine ⟨rfl, _, rfl, ite2 (fun c => ?_) (fun c => ?_)⟩
    · refine ⟨by decide, fun p np => ⟨_, rfl, _, rfl, choose (l1.upd np) upd_same rfl (by decide) fun x H' hx l => ⟨by show 2 ≤ sizeLine; decide, fun t nt => ?_⟩⟩⟩
      exact q t _ false x _ ⟨rfl, hx⟩ (l.upd nt) (l.free D nt) upd_same
    · refine ⟨by decide, fun p np => ⟨_, rfl, _, rfl, choose (l1.upd np) upd_same rfl (by decide) fun x H' hx l => ⟨by show 2 ≤ sizeLine; decide, fun t nt => ?_⟩⟩⟩
      exact q t _ true x _ ⟨rfl, hx⟩ (l.upd nt) (l.free D nt) upd_same
end
end Ow
namespace Ow
open PySem PySem.Spec PyProof.Rows L2
section
variable {P : Program} {w : World} {K : PySem.W.Frag} {mg : Str → Option Value} {base : Heap}
/-- two tuples of flat data -/
def vD : V → PyData
  | .bl b => .bool b
  | .int i => .int i
  | .str x => .str x
  | _ => .none
def flatB : V → Bool
  | .bl _ => true
  | .int _ => true
  | .str x => PyData.strOk x
  | _ => false
theorem dp_flat {K : PySem.W.Frag} {H : Hp} : ∀ {xs : List V}, xs.all flatB = true → DpAll K H xs (xs.map vD)
  | [], _ => .nil
  | x :: r, h => by
    rw [List.all_cons, Bool.and_eq_true] at h
    refine .cons ?_ (dp_flat h.2)
    cases x with
    | bl b => exact .bl b
    | int i => exact .int i
    | str z => exact .str z
    | _ => cases h.1
theorem lay_flat : ∀ {xs : List V}, xs.all flatB = true → PyData.canLayAll0 (xs.map vD) = true ∧ PyData.depthAll (xs.map vD) = 0
  | [], _ => ⟨rfl, by simp [PyData.depthAll]⟩
  | x :: r, h => by
    rw [List.all_cons, Bool.and_eq_true] at h
    obtain ⟨i1, i2⟩ := lay_flat h.2
    rw [List.map_cons]
    cases x with
    | bl b => exact ⟨by simp [PyData.canLayAll0, PyData.canLay0, vD, i1], by simp [PyData.depthAll, PyData.depth, vD, i2]⟩
    | int i => exact ⟨by simp [PyData.canLayAll0, PyData.canLay0, vD, i1], by simp [PyData.depthAll, PyData.depth, vD, i2]⟩
    | str z =>
      have hz : PyData.strOk z = true := h.1
      exact ⟨by simp [PyData.canLayAll0, PyData.canLay0, vD, i1, hz], by simp [PyData.depthAll, PyData.depth, vD, i2]⟩
    | _ => cases h.1
theorem shaped_flat {xs : List V} (h : xs.all flatB = true) : SeqAt.shaped (.tuple (xs.map vD)) = true ∧ PyData.eqv (.tuple (xs.map vD)) (.tuple (xs.map vD)) = true := by
  obtain ⟨i1, i2⟩ := lay_flat h
  have e1 : PyData.canLay0 (.tuple (xs.map vD)) = true := by simp [PyData.canLay0, i1]
  have e2 : PyData.depth (.tuple (xs.map vD)) ≤ 64 := by simp [PyData.depth, i2]
  refine ⟨?_, SeqAt.eqv_refl _ e1⟩
  unfold SeqAt.shaped
  rw [e1, decide_eq_true e2]; rfl
/-- != of two such tuples that say the same -/
theorem ne_flat {K : PySem.W.Frag} {H : Hp} {p q : Addr} {xs : List V} {Q : VK} (hp : H p = some (.tup xs)) (hq : H q = some (.tup xs)) (hf : xs.all flatB = true) (h : Q (.bl false) H) : rNeD K (.ref p) (.ref q) H Q := by
  obtain ⟨e1, e2⟩ := shaped_flat hf
  refine ⟨_, _, .tup (SqT.of hp) (dp_flat hf), .tup (SqT.of hq) (dp_flat hf), e1, e1, ?_⟩
  rw [e2]; exact h
def spLaw (K : PySem.W.Frag) : Sp := fun vs H Q _ => ∃ (a : Addr) (ns : List Int), vs = [.ref a] ∧ SqL K H a (ns.map V.int) ∧ ns.length ≤ 63 ∧ ∀ H', Q (.bl true) H'
theorem row_int (t : List Nat) : Txt.count (S t) "\n" + 1 = rowOf t := by rw [count_nl]; unfold rowOf; omega
theorem col_int (t : List Nat) : ((S t).length : Int) - Txt.rfind (S t) "\n" = colOf t := by rw [rfind_nl, S_len]; unfold colOf; omega
def sps : List Str := [" ", "\n"]
theorem sps_ok : ∀ x ∈ sps, (match cd x with | [] => false | c :: _ => decide (c ∈ bset)) = true ∧ (cd x).length ≤ 20 := by decide +kernel
theorem lit_ok : ∀ x ∈ (["$", "02", "_"] : List Str), (cd x).length ≤ 20 := by decide +kernel
theorem ok_law {f : Addr} {fd : FuncData} (F : Fun K "law" "law" s_law f fd)
    (hS : Has P w K mg base 2 "_law_stream" ["script", "most"] (sp__law_stream K)) (hP : Has P w K mg base 2 "_law_pick" ["draws", "many"] sp__law_pick) (hT : Has P w K mg base 5 "_law_told" ["text"] sp__law_told)
    (hG : Has P w K mg base 3 "_law_good" ["draws"] sp__law_good) (hD : Has P w K mg base 3 "_law_bad" ["draws"] sp__law_bad) (hB : Has P w K mg base 3 "_law_between" ["draws"] sp__law_between)
    (z_range : mg "range" = none) (z_len : mg "len" = none) : FnOk P w K mg base CX0 6 f fd ["script"] (spLaw K) := by
  obtain ⟨f1, fd1, G__law_stream, k__law_stream, b__law_stream, g__law_stream⟩ := hS
  obtain ⟨f2, fd2, G__law_pick, k__law_pick, b__law_pick, g__law_pick⟩ := hP
  obtain ⟨f3, fd3, G__law_told, k__law_told, b__law_told, g__law_told⟩ := hT
  obtain ⟨f4, fd4, G__law_good, k__law_good, b__law_good, g__law_good⟩ := hG
  obtain ⟨f5, fd5, G__law_bad, k__law_bad, b__law_bad, g__law_bad⟩ := hD
  obtain ⟨f6, fd6, G__law_between, k__law_between, b__law_between, g__law_between⟩ := hB
  refine F.ok sc_law (fun vs H Q E h => ?_) (fun cdv A outer s H vs Q E hr h => ?_)
  · obtain ⟨_, _, rfl, _⟩ := h; rfl
  · obtain ⟨a, ns, rfl, hS, hns, q⟩ := h
    refine ⟨_, (pss_cons (ps_set (i := 1) sc_law.nd rfl (.inl rfl) (pe_call G__law_stream (hr.mono (by decide)) (by rfl) g__law_stream k__law_stream b__law_stream .nil pass0 (pa_cons (pv 0) (pa_cons pe_int pa_nil))))
      (pss_cons (ps_set (i := 2) sc_law.nd rfl (.inl rfl) pe_str)
      (pss_cons (ps_set (i := 3) sc_law.nd rfl (.inl rfl) (pe_call G__law_pick (hr.mono (by decide)) (by rfl) g__law_pick k__law_pick b__law_pick .nil pass0 (pa_cons (pv 1) (pa_cons pe_int pa_nil))))
      (pss_cons (ps_for PassesOwn.never rfl (pi_range1 (by rfl) z_range (pa_cons (pv 3) pa_nil)) (pg_name (i := 4) sc_law.nd rfl (.inl rfl))
        (pss_one (ps_set (i := 2) sc_law.nd rfl (.inl rfl) (pe_op op_add_str (pe_op op_add_str (pv 2) (pe_call G__law_good (hr.mono (by decide)) (by rfl) g__law_good k__law_good b__law_good .nil pass0 (pa_cons (pv 1) pa_nil))) (pe_call G__law_between (hr.mono (by decide)) (by rfl) g__law_between k__law_between b__law_between .nil pass0 (pa_cons (pv 1) pa_nil))))))
      (pss_cons (ps_if (pt_cmpR (op_neD hr.units) (pe_call G__law_told (hr.mono (by decide)) (by rfl) g__law_told k__law_told b__law_told .nil pass0 (pa_cons (pv 2) pa_nil)) (pe_tup (pa_cons pe_str (pa_cons (pe_op op_add (pv 3) pe_int) pa_nil))) (nomark _))
        (pss_one (ps_ret pe_bl))
        pss_nil)
      (pss_cons (ps_for PassesOwn.never rfl (pi_range1 (by rfl) z_range (pa_cons pe_int pa_nil)) (pg_name (i := 5) sc_law.nd rfl (.inl rfl))
        (pss_cons (ps_asg (pe_call G__law_bad (hr.mono (by decide)) (by rfl) g__law_bad k__law_bad b__law_bad .nil pass0 (pa_cons (pv 1) pa_nil)) (pg_tup rfl (pgs_cons (pg_name (i := 6) sc_law.nd rfl (.inl rfl)) (pgs_cons (pg_name (i := 7) sc_law.nd rfl (.inl rfl)) pgs_nil))))
        (pss_cons (ps_set (i := 8) sc_law.nd rfl (.inl rfl) (pe_op op_add (pe_bm PySem.F.plainAttrs_str PySem.F.slot_str_count PySem.F.type_str_count mt_count (pv 2) (pa_cons pe_str pa_nil)) pe_int))
        (pss_cons (ps_set (i := 9) sc_law.nd rfl (.inl rfl) (pe_op op_sub (pe_callB call_len_str (by rfl) z_len PySem.boot_len (pa_cons (pv 2) pa_nil)) (pe_bm PySem.F.plainAttrs_str PySem.F.slot_str_rfind PySem.F.type_str_rfind mt_rfind (pv 2) (pa_cons pe_str pa_nil))))
        (pss_cons (ps_set (i := 10) sc_law.nd rfl (.inl rfl) pe_str)
        (pss_cons (ps_for PassesOwn.never rfl (pi_range1 (by rfl) z_range (pa_cons (pe_call G__law_pick (hr.mono (by decide)) (by rfl) g__law_pick k__law_pick b__law_pick .nil pass0 (pa_cons (pv 1) (pa_cons pe_int pa_nil))) pa_nil)) (pg_name (i := 4) sc_law.nd rfl (.inl rfl))
          (pss_one (ps_set (i := 10) sc_law.nd rfl (.inl rfl) (pe_op op_add_str (pe_op op_add_str (pv 10) (pe_ix ix_list (pe_lst (pa_strs (xs := sps) (by rfl))) (pe_call G__law_pick (hr.mono (by decide)) (by rfl) g__law_pick k__law_pick b__law_pick .nil pass0 (pa_cons (pv 1) (pa_cons pe_int pa_nil))) (fun _ _ => rfl))) (pe_ix ix_list (pe_lst (pa_cons (pe_call G__law_good (hr.mono (by decide)) (by rfl) g__law_good k__law_good b__law_good .nil pass0 (pa_cons (pv 1) pa_nil)) (pa_cons pe_str (pa_cons pe_str (pa_cons pe_str pa_nil))))) (pe_call G__law_pick (hr.mono (by decide)) (by rfl) g__law_pick k__law_pick b__law_pick .nil pass0 (pa_cons (pv 1) (pa_cons pe_int pa_nil))) (fun _ _ => rfl))))))
        (pss_one (ps_if (pt_cmpR (op_neD hr.units) (pe_call G__law_told (hr.mono (by decide)) (by rfl) g__law_told k__law_told b__law_told .nil pass0 (pa_cons (pe_op op_add_str (pe_op op_add_str (pv 2) (pv 7)) (pv 10)) pa_nil)) (pe_tup (pa_cons (pv 6) (pa_cons (pv 8) (pa_cons (pv 9) (pa_cons pe_bl (pa_cons pe_bl pa_nil)))))) (nomark _))
          (pss_one (ps_ret pe_bl))
          pss_nil))))))))
      (pss_one (ps_ret pe_bl)))))))), ?_⟩
    refine ⟨_, rfl, a, ns, 200, rfl, hS, hns, by decide, fun d r row H1 hrow _ _ _ D1 => ?_⟩
    refine ⟨_, rfl, d, r, 0, _, row, 31, rfl, D1, by decide, fun n hn => ?_⟩
    have D2 := D1.next
    generalize hsd : ((row.length : Nat) : Int) = sd at D2
    -- for k in range(many)
    refine ⟨_, rfl, (n : Int), rfl, by omega, by omega, ?_⟩
    rw [Int.toNat_natCast]
    refine for_range (n := n) (fun i σ H2 => ∃ (t : List Nat) (y4 : Option V), σ = [some (.ref a), some (.ref d), some (.str (S t)), some (.int n), y4, none, none, none, none, none, none] ∧ (∃ a', Draws H2 d r a' sd row) ∧ GoodT t i ∧ t.length ≤ 40 * i) ⟨[], none, by rw [show S [] = ("" : Str) by decide +kernel]; rfl, ⟨_, D2⟩, GoodT.start, by simp⟩ ?_ ?_
    · rintro i σ H2 hi ⟨t, y4, rfl, ⟨a2, A2⟩, g, ht⟩
      refine ⟨_, rfl, _, rfl, d, r, a2, sd, row, rfl, A2, fun x H3 hx l3 => ?_⟩
      have hxl := (goods_ok x hx).2
      have ex := cd_len x
      have big : (2000 : Nat) ≤ sizeLine := by decide
      refine ⟨_, _, rfl, rfl, by rw [S_len]; omega, ?_⟩
      obtain ⟨a3, A3⟩ := l3.dr
      refine ⟨_, rfl, d, r, a3, sd, row, rfl, A3, fun y H4 hy l4 => ?_⟩
      have hyl := (betweens_ok y hy).2.2
      have ey := cd_len y
      have e1 : S t ++ x = S (t ++ cd x) := by rw [← S_app, S_cd]
      have e2 : S (t ++ cd x) ++ y = S (t ++ cd x ++ cd y) := by rw [← S_app (t ++ cd x) (cd y), S_cd]
      rw [e1]
      refine ⟨_, _, rfl, rfl, by rw [S_len, List.length_append]; omega, ?_⟩
      rw [e2]
      exact ⟨t ++ cd x ++ cd y, _, rfl, l4.dr, g.more hx hy, by rw [List.length_append, List.length_append]; omega⟩
    · rintro σ H2 ⟨t, y4, rfl, ⟨a2, A2⟩, g, ht⟩
      have ht2 : t.length ≤ 1240 := by omega
      -- if _law_told(text) != ("tokens", many + 1)
      obtain ⟨ts', hts, sc⟩ := g [] _ _ (Scan.fin t)
      rw [List.append_nil] at sc
      refine ⟨_, rfl, t, _, none, rfl, by omega, sc, fun H3 p3 s3 np3 hp3 => ?_⟩
      refine ⟨_, rfl, _, _, rfl, rfl, by show 2 ≤ sizeLine; decide, fun p4 np4 => ?_⟩
      have el : ((ts' ++ [(("end", "", rowOf t, colOf t) : Tk)]).length : Int) = (n : Int) + 1 := by rw [List.length_append, hts]; rfl
      have D3 : Draws (upd H3 p4 (.tup [.str "tokens", .int ((n : Int) + 1)])) d r a2 sd row := (A2.same s3).same (same_upd np4)
      refine ne_flat (xs := [.str "tokens", .int ((n : Int) + 1)]) ?_ upd_same (by show (PyData.strOk "tokens" && (true && true)) = true; decide +kernel) ⟨_, rfl, iteF ?_⟩
      · rw [upd_ne (ne_of_none hp3 np4), hp3]
        unfold toldV
        rw [el]
      -- for turn in range(12)
      refine ⟨12, rfl, by decide, by decide, for_range (n := 12) (fun i σ H2 => ∃ (y4 y5 y6 y7 y8 y9 y10 : Option V), σ = [some (.ref a), some (.ref d), some (.str (S t)), some (.int n), y4, y5, y6, y7, y8, y9, y10] ∧ (∃ a', Draws H2 d r a' sd row)) ⟨_, _, _, _, _, _, _, rfl, _, D3⟩ ?_ ?_⟩
      · rintro i σ H4 hi ⟨y4, y5, y6, y7, y8, y9, y10, rfl, a4, A4⟩
        refine ⟨_, rfl, d, r, a4, sd, row, rfl, A4, fun p k b x H5 hb l5 np hp => ?_⟩
        refine ⟨p, _, rfl, SqT.of hp, rfl, .str k, _, rfl, .str x, _, rfl, rfl, ?_⟩
        have htl : (S t).length ≤ sizeLine := by rw [S_len]; exact Nat.le_trans ht2 (by decide)
        -- row, column, rest
        refine ⟨_, rfl, rfl, _, _, rfl, rfl, _, _, rfl, rfl, _, rfl, _, rfl, htl, _, rfl, rfl, _, _, rfl, rfl, _, _, rfl, rfl, ?_⟩
        obtain ⟨a5, A5⟩ := l5.dr
        -- for k in range(_law_pick(draws, 4))
        refine ⟨_, rfl, d, r, a5, sd, row, 4, rfl, A5, by decide, fun m hm => ?_⟩
        have A6 := A5.next
        refine ⟨(m : Int), rfl, by omega, by omega, ?_⟩
        rw [Int.toNat_natCast]
        have hxl : (cd x).length ≤ 20 := by
          obtain ⟨_, hb⟩ := hb
          cases b with
          | true => exact (badN_ok x hb).2
          | false => exact (badC_ok x hb).2
        have ex := cd_len x
        have big : (2000 : Nat) ≤ sizeLine := by decide
        refine for_range (n := m) (fun i σ H2 => ∃ (rest : List Nat) (y4 y5 : Option V), σ = [some (.ref a), some (.ref d), some (.str (S t)), some (.int n), y4, y5, some (.str k), some (.str x), some (.int (Txt.count (S t) "\n" + 1)), some (.int (((S t).length : Int) - Txt.rfind (S t) "\n")), some (.str (S rest))] ∧ (∃ a', Draws H2 d r a' sd row) ∧ Aft rest ∧ rest.length ≤ 40 * i) ⟨[], _, _, by rw [show S [] = ("" : Str) by decide +kernel]; rfl, ⟨_, A6⟩, .inl rfl, by simp⟩ ?_ ?_
        · rintro j σ H7 hj ⟨rest, z4, z5, rfl, ⟨a7, A7⟩, haft, hrl⟩
          refine ⟨_, rfl, by decide, fun p8 np8 => ⟨_, rfl, choose (xs := sps) ((Later.refl A7).upd np8) upd_same rfl (by decide) fun u H8 hu l8 => ?_⟩⟩
          have hul := (sps_ok u hu)
          have eu := cd_len u
          have e1 : S rest ++ u = S (rest ++ cd u) := by rw [← S_app, S_cd]
          refine ⟨_, _, rfl, rfl, by rw [S_len]; omega, ?_⟩
          rw [e1]
          obtain ⟨a8, A8⟩ := l8.dr
          refine ⟨_, rfl, d, r, a8, sd, row, rfl, A8, fun g H9 hg l9 => ⟨by show 4 ≤ sizeLine; decide, fun p10 np10 => ?_⟩⟩
          have hgl := (goods_ok g hg).2
          refine ⟨_, rfl, choose (xs := [g, "$", "02", "_"]) (l9.upd np10) upd_same rfl (by show 0 < 4; decide) fun v H11 hv l11 => ?_⟩
          have hvl : (cd v).length ≤ 20 := by
            rcases List.mem_cons.mp hv with rfl | hv
            · exact hgl
            · exact lit_ok v hv
          have ev := cd_len v
          have e2 : S (rest ++ cd u) ++ v = S (rest ++ cd u ++ cd v) := by rw [← S_app (rest ++ cd u) (cd v), S_cd]
          refine ⟨_, _, rfl, rfl, by rw [S_len, List.length_append]; omega, ?_⟩
          rw [e2]
          refine ⟨rest ++ cd u ++ cd v, _, _, rfl, l11.dr, ?_, by rw [List.length_append, List.length_append]; omega⟩
          rcases haft with rfl | ⟨c, r', rfl, hc⟩
          · rw [List.nil_append]; exact Aft.of _ hul.1
          · exact .inr ⟨c, _, rfl, hc⟩
        · rintro σ H7 ⟨rest, z4, z5, rfl, ⟨a7, A7⟩, haft, hrl⟩
          have hbw : BadW b (cd x ++ rest) := by
            obtain ⟨_, hb⟩ := hb
            cases b with
            | true => exact badN_bad hb haft
            | false => exact badC_bad hb rest
          obtain ⟨ts2, _, sc2⟩ := g _ _ _ (Scan.bad (pre := t) hbw)
          have e1 : S t ++ x = S (t ++ cd x) := by rw [← S_app, S_cd]
          refine ⟨_, rfl, _, rfl, _, _, rfl, rfl, by rw [S_len]; omega, ?_⟩
          rw [e1]
          refine ⟨_, rfl, _, _, rfl, rfl, by rw [S_len, S_len, List.length_append]; omega, ?_⟩
          rw [S_app]
          refine ⟨t ++ cd x ++ rest, _, _, rfl, by rw [List.length_append, List.length_append]; omega, by rw [List.append_assoc]; exact sc2, fun H8 p8 s8 np8 hp8 => ?_⟩
          refine ⟨_, rfl, _, rfl, _, rfl, by show 5 ≤ sizeLine; decide, fun p9 np9 => ?_⟩
          have ek : k = (if b then ("number" : Str) else ("character" : Str)) := hb.1
          have hk : PyData.strOk k = true := by
            rw [ek]
            cases b <;> decide +kernel
          refine ne_flat (xs := [.str k, .int (Txt.count (S t) "\n" + 1), .int (((S t).length : Int) - Txt.rfind (S t) "\n"), .bl false, .bl true]) ?_ upd_same (by show (PyData.strOk k && (true && (true && (true && (true && true))))) = true; rw [hk]; rfl) ⟨_, rfl, iteF ?_⟩
          · rw [upd_ne (ne_of_none hp8 np9), hp8, ek, row_int, col_int]
            rfl
          · exact ⟨_, _, _, _, _, _, _, rfl, _, (A7.same s8).same (same_upd np9)⟩
      · rintro σ H4 _
        exact q _
end
end Ow
namespace Ow
open PySem PySem.Spec PyProof.Rows L2
section
variable {K : PySem.W.Frag} {h : Heap} {mg : Str → Option Value}
/-- what k_is tells of a def -/
structure DefK (K : PySem.W.Frag) (x : Str) (st : Stmt) (f : Addr) (oc kV dc pm cd ct : Value) (od an : Option Addr) (sl : Array (Option Value)) : Prop where
  a : PySem.W.nsIn K mainGlobals x = some (some (.ref f))
  l : K.lookup f = some ⟨oc, od, .func (PySem.W.fnOf x x (defArgs st) (defBody st) (defScope st) .none kV dc pm an cd ct), sl⟩
  c : PySem.W.codeIn K cd x = true
  k : PySem.W.keepIn K (.ref f) = true
theorem DefK.here {x : Str} {st : Stmt} {f : Addr} {oc kV dc pm cd ct : Value} {od an : Option Addr} {sl : Array (Option Value)} {ps : List Str} (D : DefK K x st f oc kV dc pm cd ct od an sl) (X : K.In h) (G : h.Ns mainGlobals mg)
    (hb : ∀ (kV doc pm : Value) (an : Option Addr) (cdv ct : Value) (us : List Value), us.length = ps.length → bindArgs (PySem.W.fnOf x x (defArgs st) (defBody st) (defScope st) .none kV doc pm an cdv ct) ⟨us, []⟩ = pure (ps.zip us)) : Here K mg x st ps := by
  have F := fun_mk (st := st) D.l D.c D.k
  exact ⟨f, _, F, PySem.W.mg_of X G D.a, F.binds hb⟩
theorem gstr_of {x z z' : Str} {t : Tok} (X : K.In h) (G : h.Ns mainGlobals mg) (a : PySem.W.nsIn K mainGlobals x = some (some (.str z t))) (e : z = z') : GStr mg x z' := by
  subst e; exact ⟨t, PySem.W.mg_of X G a⟩
theorem gint_of {x : Str} {n : Int} {t : Tok} (X : K.In h) (G : h.Ns mainGlobals mg) (a : PySem.W.nsIn K mainGlobals x = some (some (.int n t))) : GInt mg x n := ⟨t, PySem.W.mg_of X G a⟩
theorem rel_abs {u : Value} {x : V} (e : absV u = some x) : RelV x u := by
  cases u <;> simp [absV] at e <;> subst e <;> first | rfl | exact ⟨_, rfl⟩
theorem vals_abs : ∀ {us : List Value} {xs : List V}, us.map absV = xs.map some → Vals xs us
  | [], [], _ => .nil
  | [], _ :: _, e => by cases e
  | _ :: _, [], e => by cases e
  | u :: us, x :: xs, e => by
    rw [List.map_cons, List.map_cons] at e
    injection e with e1 e2
    exact .cons (rel_abs e1) (vals_abs e2)
theorem gtup_of {x : Str} {p : Addr} {dd : Option Addr} {its : Array Value} {n : Nat} {sl : Array (Option Value)} {xs : List V} (X : K.In h) (G : h.Ns mainGlobals mg) (a : PySem.W.nsIn K mainGlobals x = some (some (.ref p)))
    (l : K.lookup p = some ⟨.type "tuple", dd, .seq its n, sl⟩) (e : its.toList.map absV = xs.map some) (hz : decide (xs.length ≤ sizeLine) = true) : GTup K mg x xs := by
  have hv := vals_abs e
  refine ⟨p, PySem.W.mg_of X G a, fun H => .inr ⟨_, its, n, l, rfl, rfl, ?_, hv⟩⟩
  have h1 := Paired.length hv
  have h2 := of_decide_eq_true hz
  rw [← Array.length_toList]
  omega
end
section
variable {K : PySem.W.Frag} {h : Heap} {mg : Str → Option Value}
/-- what k_is tells of an error's class -/
structure ExcK (K : PySem.W.Frag) (x : Str) (C fI : Addr) (nm q : Str) (N : Addr) (bs bm : List Value) (sn : List Str) (sub : List Value) (ab : Bool) (col : Option Bool) (dd : Option Addr) (k0 k1 k2 k3 k5 : Option Value) : Prop where
  a : PySem.W.nsIn K mainGlobals x = some (some (.ref C))
  l : K.lookup C = some (excClassObj nm q C N bs bm true sn sub ab col dd k0 k1 k2 k3 k5 "ValueError.__new__")
  m : PySem.HandSPX.refsVE bm = true
  sa : PySem.W.findIn K (.ref C) "__setattr__" = some (some (.builtin "object.__setattr__"))
  exC : PySem.W.subIn K (.ref C) (.type "BaseException") = some true
  tyC : PySem.W.typeIn K (.ref C) = some (.type "type")
  kC : PySem.W.keepIn K (.ref C) = true
  nr : PySem.W.findIn K (.ref C) "row" = some none
  nc : PySem.W.findIn K (.ref C) "column" = some none
  iC : PySem.W.findIn K (.ref C) "__init__" = some (some (.ref fI))
  ga : PySem.W.findIn K (.ref C) "__getattribute__" = some (some (.builtin "BaseException.__getattribute__"))
  gg : PySem.W.findIn K (.ref C) "__getattr__" = some none
  hd : PySem.W.hasDictIn K C = true
  cl : PySem.W.isClsIn K C = true
  ha : PySem.W.findIn K (.ref C) "__class__" = some (some (.builtin "object.__class__"))
  hm : PySem.W.mroIn K C (.type "object") = some true
  rd : PySem.W.readsIn K C (.type "type") = true
  fn : PySem.W.findCls K (.ref C) (.type "type") "__name__" = some (.get (.builtin "getset_descriptor.__get__") (.builtin "type.__name__") (.ref C) (.type "type"))
  nl : PySem.W.findIn K (.ref C) "called" = some none
  n2 : ∃ tk, k2 = some (.str x tk)
variable {x : Str} {C fI : Addr} {nm q : Str} {N : Addr} {bs bm : List Value} {sn : List Str} {sub : List Value} {ab : Bool} {col : Option Bool} {dd : Option Addr} {k0 k1 k2 k3 k5 : Option Value}
theorem ExcK.xf (D : ExcK K x C fI nm q N bs bm sn sub ab col dd k0 k1 k2 k3 k5) : XfC K C := ⟨D.ga, D.gg, D.exC, D.hd⟩
theorem ExcK.ex {cls : Value} {b : Bool} (D : ExcK K x C fI nm q N bs bm sn sub ab col dd k0 k1 k2 k3 k5) (e : PySem.W.subIn K cls (.ref C) = some b) : PySem.W.exmOne K cls (.ref C) = some b := PySem.W.exm_ref D.exC D.hd D.tyC e
theorem ExcK.caught (D : ExcK K x C fI nm q N bs bm sn sub ab col dd k0 k1 k2 k3 k5) (hn : PySem.W.specialIn K (.builtin "object.__class__") "__get__" = some (some (.builtin "getset_descriptor.__get__"))) (ht : PySem.W.takesIn K (.builtin "object.__class__") = some true) : CaughtC K C :=
  ⟨D.cl, D.ga, D.gg, D.exC, D.ha, hn, ht, D.hm⟩
theorem ExcK.err (D : ExcK K x C fI nm q N bs bm sn sub ab col dd k0 k1 k2 k3 k5) (X : K.In h) (G : h.Ns mainGlobals mg) (hn : PySem.W.specialIn K (.builtin "object.__class__") "__get__" = some (some (.builtin "getset_descriptor.__get__"))) (ht : PySem.W.takesIn K (.builtin "object.__class__") = some true) : ErrC K mg fI x C :=
  ⟨PySem.W.mg_of X G D.a, ⟨⟨_, _, _, _, _, _, _, _, _, _, _, _, _, _, _, D.l, D.m⟩, D.sa, D.exC, D.tyC, D.kC⟩, ⟨D.caught hn ht, D.rd, D.fn, by obtain ⟨tk, e2⟩ := D.n2; exact ⟨_, tk, D.l, rfl, e2⟩⟩, D.nl, D.nr, D.nc, D.iC⟩
end
theorem all_mk {l : PySem.W.OpenLaw} {w : World} {K : PySem.W.Frag} {h : Heap} {mg : Str → Option Value} {fa fI : Addr} (X : K.In h) (G : h.Ns mainGlobals mg) (hfa : mg "law" = some (.ref fa))
    {g1 : Addr} {oc1 kV1 dc1 pm1 cd1 ct1 : Value} {od1 an1 : Option Addr} {sl1 : Array (Option Value)} (d1 : DefK K "tokens" s_tokens g1 oc1 kV1 dc1 pm1 cd1 ct1 od1 an1 sl1)
    {g2 : Addr} {oc2 kV2 dc2 pm2 cd2 ct2 : Value} {od2 an2 : Option Addr} {sl2 : Array (Option Value)} (d2 : DefK K "comment_end" s_comment_end g2 oc2 kV2 dc2 pm2 cd2 ct2 od2 an2 sl2)
    {g3 : Addr} {oc3 kV3 dc3 pm3 cd3 ct3 : Value} {od3 an3 : Option Addr} {sl3 : Array (Option Value)} (d3 : DefK K "token_at" s_token_at g3 oc3 kV3 dc3 pm3 cd3 ct3 od3 an3 sl3)
    {g4 : Addr} {oc4 kV4 dc4 pm4 cd4 ct4 : Value} {od4 an4 : Option Addr} {sl4 : Array (Option Value)} (d4 : DefK K "word_at" s_word_at g4 oc4 kV4 dc4 pm4 cd4 ct4 od4 an4 sl4)
    {g5 : Addr} {oc5 kV5 dc5 pm5 cd5 ct5 : Value} {od5 an5 : Option Addr} {sl5 : Array (Option Value)} (d5 : DefK K "is_within_word" s_is_within_word g5 oc5 kV5 dc5 pm5 cd5 ct5 od5 an5 sl5)
    {g6 : Addr} {oc6 kV6 dc6 pm6 cd6 ct6 : Value} {od6 an6 : Option Addr} {sl6 : Array (Option Value)} (d6 : DefK K "is_number" s_is_number g6 oc6 kV6 dc6 pm6 cd6 ct6 od6 an6 sl6)
    {g7 : Addr} {oc7 kV7 dc7 pm7 cd7 ct7 : Value} {od7 an7 : Option Addr} {sl7 : Array (Option Value)} (d7 : DefK K "_law_mix" s__law_mix g7 oc7 kV7 dc7 pm7 cd7 ct7 od7 an7 sl7)
    {g8 : Addr} {oc8 kV8 dc8 pm8 cd8 ct8 : Value} {od8 an8 : Option Addr} {sl8 : Array (Option Value)} (d8 : DefK K "_law_stream" s__law_stream g8 oc8 kV8 dc8 pm8 cd8 ct8 od8 an8 sl8)
    {g9 : Addr} {oc9 kV9 dc9 pm9 cd9 ct9 : Value} {od9 an9 : Option Addr} {sl9 : Array (Option Value)} (d9 : DefK K "_law_pick" s__law_pick g9 oc9 kV9 dc9 pm9 cd9 ct9 od9 an9 sl9)
    {g10 : Addr} {oc10 kV10 dc10 pm10 cd10 ct10 : Value} {od10 an10 : Option Addr} {sl10 : Array (Option Value)} (d10 : DefK K "_law_good" s__law_good g10 oc10 kV10 dc10 pm10 cd10 ct10 od10 an10 sl10)
    {g11 : Addr} {oc11 kV11 dc11 pm11 cd11 ct11 : Value} {od11 an11 : Option Addr} {sl11 : Array (Option Value)} (d11 : DefK K "_law_bad" s__law_bad g11 oc11 kV11 dc11 pm11 cd11 ct11 od11 an11 sl11)
    {g12 : Addr} {oc12 kV12 dc12 pm12 cd12 ct12 : Value} {od12 an12 : Option Addr} {sl12 : Array (Option Value)} (d12 : DefK K "_law_between" s__law_between g12 oc12 kV12 dc12 pm12 cd12 ct12 od12 an12 sl12)
    {g13 : Addr} {oc13 kV13 dc13 pm13 cd13 ct13 : Value} {od13 an13 : Option Addr} {sl13 : Array (Option Value)} (d13 : DefK K "_law_told" s__law_told g13 oc13 kV13 dc13 pm13 cd13 ct13 od13 an13 sl13)
    {g14 : Addr} {oc14 kV14 dc14 pm14 cd14 ct14 : Value} {od14 an14 : Option Addr} {sl14 : Array (Option Value)} (d14 : DefK K "law" s_law g14 oc14 kV14 dc14 pm14 cd14 ct14 od14 an14 sl14)
    {t_LETTERS : Tok} {z_LETTERS : Str} (a_LETTERS : PySem.W.nsIn K mainGlobals "LETTERS" = some (some (.str z_LETTERS t_LETTERS))) (e_LETTERS : z_LETTERS = S letters)
    {t_DIGITS : Tok} {z_DIGITS : Str} (a_DIGITS : PySem.W.nsIn K mainGlobals "DIGITS" = some (some (.str z_DIGITS t_DIGITS))) (e_DIGITS : z_DIGITS = S digits)
    {t_SHORT_SIGNS : Tok} {z_SHORT_SIGNS : Str} (a_SHORT_SIGNS : PySem.W.nsIn K mainGlobals "SHORT_SIGNS" = some (some (.str z_SHORT_SIGNS t_SHORT_SIGNS))) (e_SHORT_SIGNS : z_SHORT_SIGNS = S shorts)
    {t_GREATEST_LENGTH : Tok} (a_GREATEST_LENGTH : PySem.W.nsIn K mainGlobals "GREATEST_LENGTH" = some (some (.int 10 t_GREATEST_LENGTH)))
    {t_GREATEST_WORD : Tok} (a_GREATEST_WORD : PySem.W.nsIn K mainGlobals "GREATEST_WORD" = some (some (.int 4294967295 t_GREATEST_WORD)))
    {p_KEYWORDS : Addr} {dd_KEYWORDS : Option Addr} {it_KEYWORDS : Array Value} {n_KEYWORDS : Nat} {sl_KEYWORDS : Array (Option Value)} (a_KEYWORDS : PySem.W.nsIn K mainGlobals "KEYWORDS" = some (some (.ref p_KEYWORDS))) (l_KEYWORDS : K.lookup p_KEYWORDS = some ⟨.type "tuple", dd_KEYWORDS, .seq it_KEYWORDS n_KEYWORDS, sl_KEYWORDS⟩) (e_KEYWORDS : it_KEYWORDS.toList.map absV = (kws.map V.str).map some)
    {p_LONG_SIGNS : Addr} {dd_LONG_SIGNS : Option Addr} {it_LONG_SIGNS : Array Value} {n_LONG_SIGNS : Nat} {sl_LONG_SIGNS : Array (Option Value)} (a_LONG_SIGNS : PySem.W.nsIn K mainGlobals "LONG_SIGNS" = some (some (.ref p_LONG_SIGNS))) (l_LONG_SIGNS : K.lookup p_LONG_SIGNS = some ⟨.type "tuple", dd_LONG_SIGNS, .seq it_LONG_SIGNS n_LONG_SIGNS, sl_LONG_SIGNS⟩) (e_LONG_SIGNS : it_LONG_SIGNS.toList.map absV = (longs.map V.str).map some)
    (z_len : PySem.W.nsIn K mainGlobals "len" = some none)
    (z_int : PySem.W.nsIn K mainGlobals "int" = some none)
    (z_min : PySem.W.nsIn K mainGlobals "min" = some none)
    (z_range : PySem.W.nsIn K mainGlobals "range" = some none)
    (z_isinstance : PySem.W.nsIn K mainGlobals "isinstance" = some none)
    {B : Addr} (aB : PySem.W.nsIn K mainGlobals "OwnerError" = some (some (.ref B))) (bga : PySem.W.specialIn K (.ref B) "__getattribute__" = some (some (.builtin "type.__getattribute__"))) (brd : PySem.W.readsIn K B (.type "type") = true) (bfi : PySem.W.findCls K (.ref B) (.type "type") "__init__" = some (.val (.builtin "ValueError.__init__")))
    {C_TextError : Addr} (aC_TextError : PySem.W.nsIn K mainGlobals "TextError" = some (some (.ref C_TextError)))
    {C_Unexpected : Addr} (aC_Unexpected : PySem.W.nsIn K mainGlobals "Unexpected" = some (some (.ref C_Unexpected)))
    {C_BadCharacter : Addr} {nm_BadCharacter q_BadCharacter : Str} {N_BadCharacter : Addr} {bs_BadCharacter bm_BadCharacter : List Value} {sn_BadCharacter : List Str} {sub_BadCharacter : List Value} {ab_BadCharacter : Bool} {col_BadCharacter : Option Bool} {dd_BadCharacter : Option Addr} {k0_BadCharacter k1_BadCharacter k2_BadCharacter k3_BadCharacter k5_BadCharacter : Option Value} (x_BadCharacter : ExcK K "BadCharacter" C_BadCharacter fI nm_BadCharacter q_BadCharacter N_BadCharacter bs_BadCharacter bm_BadCharacter sn_BadCharacter sub_BadCharacter ab_BadCharacter col_BadCharacter dd_BadCharacter k0_BadCharacter k1_BadCharacter k2_BadCharacter k3_BadCharacter k5_BadCharacter)
    {C_BadNumber : Addr} {nm_BadNumber q_BadNumber : Str} {N_BadNumber : Addr} {bs_BadNumber bm_BadNumber : List Value} {sn_BadNumber : List Str} {sub_BadNumber : List Value} {ab_BadNumber : Bool} {col_BadNumber : Option Bool} {dd_BadNumber : Option Addr} {k0_BadNumber k1_BadNumber k2_BadNumber k3_BadNumber k5_BadNumber : Option Value} (x_BadNumber : ExcK K "BadNumber" C_BadNumber fI nm_BadNumber q_BadNumber N_BadNumber bs_BadNumber bm_BadNumber sn_BadNumber sub_BadNumber ab_BadNumber col_BadNumber dd_BadNumber k0_BadNumber k1_BadNumber k2_BadNumber k3_BadNumber k5_BadNumber)
    {ocI kVI dcI pmI cdI ctI : Value} {odI anI : Option Addr} {slI : Array (Option Value)} (lI : K.lookup fI = some ⟨ocI, odI, .func (PySem.W.fnOf "__init__" "TextError.__init__" (defArgs s_TextError_init) (defBody s_TextError_init) (defScope s_TextError_init) .none kVI dcI pmI anI cdI ctI), slI⟩) (cI : PySem.W.codeIn K cdI "TextError.__init__" = true) (kI : PySem.W.keepIn K (.ref fI) = true) (tI : PySem.W.typeIn K (.ref fI) = some (.type "function"))
    (hn : PySem.W.specialIn K (.builtin "object.__class__") "__get__" = some (some (.builtin "getset_descriptor.__get__")))
    (ht : PySem.W.takesIn K (.builtin "object.__class__") = some true)
    (eCC : PySem.W.subIn K (.ref C_BadCharacter) (.ref C_BadCharacter) = some true)
    (eNC : PySem.W.subIn K (.ref C_BadNumber) (.ref C_BadCharacter) = some false)
    (eNN : PySem.W.subIn K (.ref C_BadNumber) (.ref C_BadNumber) = some true)
    (iCT : PySem.W.kitOne K (.ref C_BadCharacter) (.ref C_TextError) = some true)
    (iCA : PySem.W.kitAny K (.ref C_BadCharacter) [.ref C_BadNumber, .ref C_Unexpected] = some false)
    (iNU : PySem.W.kitOne K (.ref C_BadNumber) (.ref C_Unexpected) = some false)
    (iNT : PySem.W.kitOne K (.ref C_BadNumber) (.ref C_TextError) = some true)
    (iNO : PySem.W.kitOne K (.ref C_BadNumber) (.ref B) = some true) :
    ∃ fd : FuncData, (∀ (s : Shared) (v : Value), BindsTo s fd ⟨[v], []⟩ [("script", v)]) ∧ ∀ base : Heap, K.In base → base.Ns mainGlobals mg → FnOk l.prog w K mg base CX0 6 fa fd ["script"] (spLaw K) := by
  have e := hfa.symm.trans (PySem.W.mg_of X G d14.a)
  cases e
  have h_tokens := d1.here X G (ps := ["text"]) fun _ _ _ _ _ _ us hl => match us, hl with | [_], _ => rfl
  have h_comment_end := d2.here X G (ps := ["text", "at"]) fun _ _ _ _ _ _ us hl => match us, hl with | [_, _], _ => rfl
  have h_token_at := d3.here X G (ps := ["text", "at", "row", "column"]) fun _ _ _ _ _ _ us hl => match us, hl with | [_, _, _, _], _ => rfl
  have h_word_at := d4.here X G (ps := ["text", "at"]) fun _ _ _ _ _ _ us hl => match us, hl with | [_, _], _ => rfl
  have h_is_within_word := d5.here X G (ps := ["char"]) fun _ _ _ _ _ _ us hl => match us, hl with | [_], _ => rfl
  have h_is_number := d6.here X G (ps := ["word"]) fun _ _ _ _ _ _ us hl => match us, hl with | [_], _ => rfl
  have h__law_mix := d7.here X G (ps := ["cell", "k"]) fun _ _ _ _ _ _ us hl => match us, hl with | [_, _], _ => rfl
  have h__law_stream := d8.here X G (ps := ["script", "most"]) fun _ _ _ _ _ _ us hl => match us, hl with | [_, _], _ => rfl
  have h__law_pick := d9.here X G (ps := ["draws", "many"]) fun _ _ _ _ _ _ us hl => match us, hl with | [_, _], _ => rfl
  have h__law_good := d10.here X G (ps := ["draws"]) fun _ _ _ _ _ _ us hl => match us, hl with | [_], _ => rfl
  have h__law_bad := d11.here X G (ps := ["draws"]) fun _ _ _ _ _ _ us hl => match us, hl with | [_], _ => rfl
  have h__law_between := d12.here X G (ps := ["draws"]) fun _ _ _ _ _ _ us hl => match us, hl with | [_], _ => rfl
  have h__law_told := d13.here X G (ps := ["text"]) fun _ _ _ _ _ _ us hl => match us, hl with | [_], _ => rfl
  have c_LETTERS := gstr_of X G a_LETTERS e_LETTERS
  have c_DIGITS := gstr_of X G a_DIGITS e_DIGITS
  have c_SHORT_SIGNS := gstr_of X G a_SHORT_SIGNS e_SHORT_SIGNS
  have c_GREATEST_LENGTH := gint_of X G a_GREATEST_LENGTH
  have c_GREATEST_WORD := gint_of X G a_GREATEST_WORD
  have c_KEYWORDS := gtup_of X G a_KEYWORDS l_KEYWORDS e_KEYWORDS (by decide +kernel)
  have c_LONG_SIGNS := gtup_of X G a_LONG_SIGNS l_LONG_SIGNS e_LONG_SIGNS (by decide +kernel)
  have m_len := PySem.W.mg_none_of X G z_len
  have m_int := PySem.W.mg_none_of X G z_int
  have m_min := PySem.W.mg_none_of X G z_min
  have m_range := PySem.W.mg_none_of X G z_range
  have m_isinstance := PySem.W.mg_none_of X G z_isinstance
  have TB : BaseI K B := ⟨bga, brd, bfi⟩
  have gB := PySem.W.mg_of X G aB
  have g_TextError := PySem.W.mg_of X G aC_TextError
  have g_Unexpected := PySem.W.mg_of X G aC_Unexpected
  have e_BadCharacter := x_BadCharacter.err X G hn ht
  have e_BadNumber := x_BadNumber.err X G hn ht
  have FI := fun_mk (st := s_TextError_init) lI cI kI
  have bI := FI.binds (ps := ["self", "row", "column"]) fun _ _ _ _ _ _ us hl => match us, hl with | [_, _, _], _ => rfl
  have F_law := fun_mk (st := s_law) d14.l d14.c d14.k
  refine ⟨PySem.W.fnOf "law" "law" (defArgs s_law) (defBody s_law) (defScope s_law) .none kV14 dc14 pm14 an14 cd14 ct14, fun s v => .of_eq rfl, fun base _ _ => ?_⟩
  have hI : HasInit l.prog w K mg base fI := ⟨_, ok_TextError_init FI gB TB, bI, tI⟩
  have Kn : ErrKin K mg B C_TextError C_BadCharacter C_BadNumber C_Unexpected := ⟨gB, g_TextError, g_Unexpected, x_BadCharacter.xf, x_BadNumber.xf, x_BadCharacter.caught hn ht, x_BadNumber.caught hn ht, x_BadCharacter.ex eCC, x_BadCharacter.ex eNC, x_BadNumber.ex eNN, iCT, iCA, iNU, iNT, iNO⟩
  have t5 : Has l.prog w K mg base 1 _ _ _ := Has.mk' h_is_within_word fun f fd F => ok_is_within_word F c_LETTERS c_DIGITS
  have t4 : Has l.prog w K mg base 2 _ _ _ := Has.mk' h_word_at fun f fd F => ok_word_at F t5 m_len
  have t6 : Has l.prog w K mg base 1 _ _ _ := Has.mk' h_is_number fun f fd F => ok_is_numberX F c_DIGITS c_GREATEST_LENGTH c_GREATEST_WORD m_len m_int
  have t3 : HasX l.prog w K mg base 3 _ _ _ := HasX.mk' h_token_at fun f fd F => ok_token_atX F c_LETTERS c_DIGITS c_KEYWORDS c_LONG_SIGNS c_SHORT_SIGNS t4 t6 hI e_BadNumber e_BadCharacter
  have t2 : Has l.prog w K mg base 1 _ _ _ := Has.mk' h_comment_end fun f fd F => ok_comment_end F m_len
  have t1 : HasX l.prog w K mg base 4 _ _ _ := HasX.mk' h_tokens fun f fd F => ok_tokensX F t2 t3 m_len
  have t7 : Has l.prog w K mg base 1 _ _ _ := Has.mk' h__law_mix fun f fd F => ok__law_mix F m_int
  have t8 : Has l.prog w K mg base 2 _ _ _ := Has.mk' h__law_stream fun f fd F => ok__law_stream F t7 m_len m_int m_min m_range
  have t9 : Has l.prog w K mg base 2 _ _ _ := Has.mk' h__law_pick fun f fd F => ok__law_pick F t7 m_len m_int
  have t10 : Has l.prog w K mg base 3 _ _ _ := Has.mk' h__law_good fun f fd F => ok__law_good F t9
  have t11 : Has l.prog w K mg base 3 _ _ _ := Has.mk' h__law_bad fun f fd F => ok__law_bad F t9
  have t12 : Has l.prog w K mg base 3 _ _ _ := Has.mk' h__law_between fun f fd F => ok__law_between F t9
  have t13 : Has l.prog w K mg base 5 _ _ _ := Has.mk' h__law_told fun f fd F => ok__law_told F t1 e_BadCharacter e_BadNumber Kn m_len m_isinstance
  exact ok_law F_law t8 t9 t13 t10 t11 t12 m_range m_len
end Ow
open PySem PySem.W PyProof.Rows
local macro_rules | `(tactic| walk_at "defk") => `(tactic| (refine' Ow.DefK.mk ?a ?l ?c ?k; (case a => k_is); (case l => k_is); (case c => k_is); (case k => k_is)))
local macro_rules | `(tactic| walk_at "exck") => `(tactic| (refine' Ow.ExcK.mk ?a ?l ?m ?sa ?exC ?tyC ?kC ?nr ?nc ?iC ?ga ?gg ?hd ?cl ?ha ?hm ?rd ?fn ?nl ?n2; (case a => k_is); (case l => k_is); (case m => decide +kernel); (case sa => k_is); (case exC => k_is); (case tyC => k_is); (case kC => k_is); (case nr => k_is); (case nc => k_is); (case iC => k_is); (case ga => k_is); (case gg => k_is); (case hd => k_is); (case cl => k_is); (case ha => k_is); (case hm => k_is); (case rd => k_is); (case fn => k_is); (case nl => k_is); (case n2 => exact ⟨_, rfl⟩)))
set_option maxRecDepth 100000 in
set_option maxHeartbeats 0 in
theorem PySem.Challenge.cw_oneowner_k01_programs_with_a_bad_place_holds : PySem.Challenge.rw_oneowner_k01_programs_with_a_bad_place.Holds := by
  w_on; o_law; k_head; (case hw => w_witness2)
  k_fill
  refine L2.walk_of (l := PySem.Challenge.rw_oneowner_k01_programs_with_a_bad_place) (n := 63) (k := 6) (x := "script") (CX := fun _ => L2.CX0) (sp := fun w => Ow.spLaw _) rfl (by decide) rfl ⟨rfl, by decide, by decide⟩ (fun w h Y => PySem.W.kIn_of Y) ?F (fun _ _ a ns hl _ hS => ⟨a, ns, rfl, hS, hl, fun _ => rfl⟩) (fun _ _ _ _ _ h => h)
  case F =>
    intro w mg fa h KX G hmg
    refine' Ow.all_mk KX G hmg ?d1 ?d2 ?d3 ?d4 ?d5 ?d6 ?d7 ?d8 ?d9 ?d10 ?d11 ?d12 ?d13 ?d14 ?a_LETTERS ?e_LETTERS ?a_DIGITS ?e_DIGITS ?a_SHORT_SIGNS ?e_SHORT_SIGNS ?a_GREATEST_LENGTH ?a_GREATEST_WORD ?a_KEYWORDS ?l_KEYWORDS ?e_KEYWORDS ?a_LONG_SIGNS ?l_LONG_SIGNS ?e_LONG_SIGNS ?z_len ?z_int ?z_min ?z_range ?z_isinstance ?aB ?bga ?brd ?bfi ?aC_TextError ?aC_Unexpected ?x_BadCharacter ?x_BadNumber ?lI ?cI ?kI ?tI ?hn ?ht ?eCC ?eNC ?eNN ?iCT ?iCA ?iNU ?iNT ?iNO
    (case d1 => walk_at "defk"); (case d2 => walk_at "defk"); (case d3 => walk_at "defk"); (case d4 => walk_at "defk"); (case d5 => walk_at "defk"); (case d6 => walk_at "defk")
    (case d7 => walk_at "defk"); (case d8 => walk_at "defk"); (case d9 => walk_at "defk"); (case d10 => walk_at "defk"); (case d11 => walk_at "defk"); (case d12 => walk_at "defk")
    (case d13 => walk_at "defk"); (case d14 => walk_at "defk"); (case a_LETTERS => k_is); (case e_LETTERS => decide +kernel); (case a_DIGITS => k_is); (case e_DIGITS => decide +kernel)
    (case a_SHORT_SIGNS => k_is); (case e_SHORT_SIGNS => decide +kernel); (case a_GREATEST_LENGTH => k_is); (case a_GREATEST_WORD => k_is); (case a_KEYWORDS => k_is); (case l_KEYWORDS => k_is)
    (case e_KEYWORDS => rfl); (case a_LONG_SIGNS => k_is); (case l_LONG_SIGNS => k_is); (case e_LONG_SIGNS => rfl); (case z_len => k_is); (case z_int => k_is)
    (case z_min => k_is); (case z_range => k_is); (case z_isinstance => k_is); (case aB => k_is); (case bga => k_is); (case brd => k_is)
    (case bfi => k_is); (case aC_TextError => k_is); (case aC_Unexpected => k_is); (case x_BadCharacter => walk_at "exck"); (case x_BadNumber => walk_at "exck"); (case lI => k_is)
    (case cI => k_is); (case kI => k_is); (case tI => k_is); (case hn => k_is); (case ht => k_is); (case eCC => k_is)
    (case eNC => k_is); (case eNN => k_is); (case iCT => kit_is); (case iCA => kit_is); (case iNU => kit_is); (case iNT => kit_is)
    (case iNO => kit_is)
