import PyProof.Rows.All
import Wide.All
import OpenK.AllK
import Wide.FinOn
import HandS.ForMost
import HandS.StrMore
import HandS.IsInst
import HandS.Codes
import PySem.Challenge.RW_oneowner_k00_tokens_of_a_program
set_option Elab.async false
set_option linter.all false
set_option maxRecDepth 100000
set_option maxHeartbeats 4000000
namespace Ow
open PySem L2
/-- the text with these codes -/
def S (l : List Nat) : Str := ⟨l.toArray⟩
theorem S_len (l : List Nat) : (S l).length = l.length := by simp [S, Str.length]
theorem S_cps (l : List Nat) : (S l).cps.toList = l := by simp [S]
theorem S_app (l m : List Nat) : S l ++ S m = S (l ++ m) := by
  apply Str.ext'
  simp [S, Str.cps_append]
theorem S_inj {l m : List Nat} (h : S l = S m) : l = m := by
  have := congrArg (fun z : Str => z.cps.toList) h
  simpa [S] using this
theorem S_of (z : Str) : z = S z.cps.toList := by cases z; simp [S]
theorem nl_eq : ("\n" : Str) = ⟨#[10]⟩ := by decide +kernel
/-- length of what stands behind the last newline -/
def tl (l : List Nat) : Nat := (l.reverse.takeWhile (fun c => c != 10)).length
theorem tl_nl (l : List Nat) : tl (l ++ [10]) = 0 := by simp [tl]
theorem takeWhile_all {p : Nat → Bool} : ∀ {w : List Nat}, (∀ c ∈ w, p c = true) → ∀ l, (w ++ l).takeWhile p = w ++ l.takeWhile p
  | [], _, l => rfl
  | a :: r, h, l => by
    rw [List.cons_append, List.takeWhile_cons, if_pos (h a (by simp)), takeWhile_all (fun c hc => h c (by simp [hc]))]
    rfl
theorem tl_app (l w : List Nat) (h : 10 ∉ w) : tl (l ++ w) = tl l + w.length := by
  unfold tl
  rw [List.reverse_append, takeWhile_all]
  · simp; omega
  · intro c hc
    have : c ∈ w := by simpa using hc
    simp
    rintro rfl
    exact h this
theorem tl_le (l : List Nat) : tl l ≤ l.length := by
  unfold tl
  have := (List.takeWhile_sublist (fun c => c != 10) (l := l.reverse)).length_le
  simpa using this
def rowOf (l : List Nat) : Int := ((1 + l.count 10 : Nat) : Int)
def colOf (l : List Nat) : Int := ((1 + tl l : Nat) : Int)
/-! ### what Python's methods tell of them -/
theorem at_iff1 (l : List Nat) (c i : Nat) : StrLaws.At (S l) ⟨#[c]⟩ (S l).length i ↔ l[i]? = some c := by
  have h := StrLaws.subAt_one (S l) c i
  rw [S_cps] at h
  exact h
theorem chain_count (l : List Nat) (c : Nat) : ∀ (cuts : List Nat) (a f : Nat), StrLaws.ChainG (S l) ⟨#[c]⟩ (S l).length a cuts f → (∀ k, f ≤ k → ¬ StrLaws.At (S l) ⟨#[c]⟩ (S l).length k) → (l.drop a).count c = cuts.length
  | [], a, f, h, hn => by
    have e : f = a := h
    subst e
    show (l.drop f).count c = 0
    rw [List.count_eq_zero]
    intro hm
    obtain ⟨j, hj⟩ := List.getElem?_of_mem hm
    rw [List.getElem?_drop] at hj
    exact hn (f + j) (by omega) ((at_iff1 l c _).mpr hj)
  | d :: r, a, f, ⟨h1, h2, h3, h4⟩, hn => by
    have ih := chain_count l c r (d + 1) f h4 hn
    have hd := (at_iff1 l c d).mp h2
    obtain ⟨hlt, hde⟩ := List.getElem?_eq_some_iff.mp hd
    have e1 : l.drop a = (l.drop a).take (d - a) ++ c :: l.drop (d + 1) := by
      have e2 : (l.drop a).drop (d - a) = c :: l.drop (d + 1) := by
        rw [List.drop_drop, show a + (d - a) = d by omega, List.drop_eq_getElem_cons hlt, hde]
      rw [← e2, List.take_append_drop]
    rw [e1, List.count_append, List.count_cons_self, ih]
    have z : List.count c ((l.drop a).take (d - a)) = 0 := by
      rw [List.count_eq_zero]
      intro hm
      obtain ⟨j, hj⟩ := List.getElem?_of_mem hm
      have hl : j < d - a := by
        have h5 := (List.getElem?_eq_some_iff.mp hj).1
        rw [List.length_take] at h5
        omega
      rw [List.getElem?_take_of_lt hl, List.getElem?_drop] at hj
      exact h3 (a + j) (by omega) (by omega) ((at_iff1 l c _).mpr hj)
    rw [z, List.length_cons]
    omega
theorem count_nl (l : List Nat) : Txt.count (S l) "\n" = ((l.count 10 : Nat) : Int) := by
  rw [nl_eq]
  unfold Txt.count
  obtain ⟨f, h1, h2⟩ := StrLaws.occ_tight (S l) ⟨#[10]⟩ (by decide)
  have := chain_count l 10 _ 0 f h1 h2
  rw [List.drop_zero] at this
  rw [this]
theorem tl_at {l : List Nat} {i : Nat} (h : l[i]? = some 10) (hn : ∀ k, i < k → l[k]? ≠ some 10) : tl l + i + 1 = l.length := by
  obtain ⟨hlt, hde⟩ := List.getElem?_eq_some_iff.mp h
  have e : l = (l.take i ++ [10]) ++ l.drop (i + 1) := by
    rw [List.append_assoc, List.singleton_append]
    have : l.drop i = 10 :: l.drop (i + 1) := by rw [List.drop_eq_getElem_cons hlt, hde]
    rw [← this, List.take_append_drop]
  have hm : 10 ∉ l.drop (i + 1) := by
    intro hm
    obtain ⟨j, hj⟩ := List.getElem?_of_mem hm
    rw [List.getElem?_drop] at hj
    exact hn (i + 1 + j) (by omega) hj
  have e2 : tl l = (l.drop (i + 1)).length := by
    have h6 := tl_app (l.take i ++ [10]) (l.drop (i + 1)) hm
    rw [← e, tl_nl] at h6
    omega
  rw [e2, List.length_drop]
  omega
theorem tl_none {l : List Nat} (h : 10 ∉ l) : tl l = l.length := by
  have := tl_app [] l h
  simpa [tl] using this
theorem rfind_nl (l : List Nat) : Txt.rfind (S l) "\n" = (l.length : Int) - (tl l : Int) - 1 := by
  rw [nl_eq]
  rcases PyProof.Rows.rfind_whole (S l) ⟨#[10]⟩ with ⟨h1, h2⟩ | ⟨i, h1, h2, h3⟩
  · have : 10 ∉ l := by
      intro hm
      obtain ⟨j, hj⟩ := List.getElem?_of_mem hm
      exact h2 j ((at_iff1 l 10 j).mpr hj)
    rw [h1, tl_none this]
    omega
  · have := tl_at ((at_iff1 l 10 i).mp h2) fun k hk => fun q => h3 k hk ((at_iff1 l 10 k).mpr q)
    rw [h1]
    omega
end Ow
/-! Words of my own over the hand layer. -/
namespace Ow
open PySem L2
theorem same_upd {H : Hp} {p : Addr} {o : HO} (h : H p = none) : Same H (upd H p o) := fun b x e => by
  rw [upd_ne (ne_of_none e h)]
  exact e
/-- a def of the module that keeps a promise, and all that a call asks of it -/
def Has (P : Program) (w : World) (K : PySem.W.Frag) (mg : Str → Option Value) (base : Heap) (k : Nat) (x : Str) (ps : List Str) (sp : Sp) : Prop :=
  ∃ f fd, FnOk P w K mg base CX0 k f fd ps sp ∧ PySem.W.keepIn K (.ref f) = true ∧ Binds K fd ps [] ∧ mg x = some (.ref f)
/-- a def of the module stands where its name says -/
def Here (K : PySem.W.Frag) (mg : Str → Option Value) (x : Str) (st : Stmt) (ps : List Str) : Prop :=
  ∃ f fd, Fun K x x st f fd ∧ mg x = some (.ref f) ∧ Binds K fd ps []
theorem Has.mk' {P : Program} {w : World} {K : PySem.W.Frag} {mg : Str → Option Value} {base : Heap} {k : Nat} {x : Str} {st : Stmt} {ps : List Str} {sp : Sp} (h : Here K mg x st ps)
    (ok : ∀ f fd, Fun K x x st f fd → FnOk P w K mg base CX0 k f fd ps sp) : Has P w K mg base k x ps sp := by
  obtain ⟨f, fd, F, m, b⟩ := h
  exact ⟨f, fd, ok f fd F, F.kp, b, m⟩
theorem rv_str {x : Str} {t : Tok} : RelV (.str x) (.str x t) := ⟨_, rfl⟩
theorem rv_int {x : Int} {t : Tok} : RelV (.int x) (.int x t) := ⟨_, rfl⟩
theorem rv_ref {a : Addr} : RelV (.ref a) (.ref a) := rfl
/-- a text at module level; a number; a tuple -/
def GStr (mg : Str → Option Value) (x z : Str) : Prop := ∃ t, mg x = some (.str z t)
def GInt (mg : Str → Option Value) (x : Str) (n : Int) : Prop := ∃ t, mg x = some (.int n t)
def GTup (K : PySem.W.Frag) (mg : Str → Option Value) (x : Str) (xs : List V) : Prop := ∃ a, mg x = some (.ref a) ∧ ∀ H, SqT K H a xs
theorem for_str {x : Str} {g : TG} {tb : TS} {D : Ends} {σ : St} {H : Hp} (Pv : Nat → St → Hp → Prop) (h0 : Pv 0 σ H)
    (hs : ∀ i c σ H, x.cps.toList[i]? = some c → Pv i σ H → g (.str ⟨#[c]⟩) σ H fun σ2 H2 => tb { D with nx := Pv (i + 1), ct := Pv (i + 1), bk := D.nx } σ2 H2) (hd : ∀ σ H, Pv x.cps.size σ H → D.nx σ H) :
    ∃ W : Nat → Nat → St → Hp → Prop, (∃ m, W 0 m σ H) ∧ ∀ i m σ H, W i m σ H →
      ((Its x).stop i H ∧ D.nx σ H) ∨ ((Its x).go i H ∧ ∃ N : St → Hp → Prop, (∀ σ' H', N σ' H' → ∃ m', m' < m ∧ W (i + 1) m' σ' H') ∧ ∀ v H', (Its x).yld i H v H' → g v σ H' fun σ2 H2 => tb { D with nx := N, ct := N, bk := D.nx } σ2 H2) := by
  refine ⟨fun i m σ H => m = x.cps.size - i ∧ i ≤ x.cps.size ∧ Pv i σ H, ⟨x.cps.size, by simp, Nat.zero_le _, h0⟩, ?_⟩
  rintro i m σ H ⟨rfl, hi, p⟩
  by_cases hlt : i < x.cps.size
  · refine .inr ⟨hlt, Pv (i + 1), fun σ' H' p' => ⟨x.cps.size - (i + 1), by omega, rfl, hlt, p'⟩, fun v H' y => ?_⟩
    obtain ⟨rfl, c, hc, rfl⟩ := y
    exact hs i c σ _ (by rw [← hc]; simp) p
  · have e : i = x.cps.size := by omega
    subst e
    exact .inl ⟨Nat.le_refl _, hd σ H p⟩
theorem inV_str (x : Str) (xs : List Str) : inV (.str x) (xs.map V.str) = decide (x ∈ xs) := by
  unfold inV
  induction xs with
  | nil => rfl
  | cons y r ih =>
    rw [List.map_cons, List.any_cons, ih]
    show ((y == x) || decide (x ∈ r)) = _
    by_cases h : x = y
    · subst h; simp
    · have : (y == x) = false := by simp; exact fun e => h e.symm
      rw [this]; simp [h]
theorem flat_strs (xs : List Str) : (xs.map V.str).all flatV = true := by
  induction xs with
  | nil => rfl
  | cons y r ih => rw [List.map_cons, List.all_cons, ih]; rfl
/-- written texts, all of a display -/
def strsOf : List Expr → Option (List Str)
  | [] => some []
  | .Constant (.str x) _ _ :: r => (strsOf r).map (x :: ·)
  | _ => none
def tStrs (xs : List Str) : TA := fun _ H Q => Q (xs.map V.str) H
theorem pa_strs {X : Cx} : ∀ {es : List Expr} {xs : List Str}, strsOf es = some xs → PA X es (tStrs xs)
  | [], xs, h => by
    have e : [] = xs := Option.some.inj h
    subst e
    exact pa_nil
  | e :: r, xs, h => by
    unfold strsOf at h
    split at h
    · rename_i he; cases he
    · rename_i x _ _ r' he
      cases he
      obtain ⟨ys, h1, h2⟩ := Option.map_eq_some_iff.mp h
      subst h2
      exact pa_cons pe_str (pa_strs h1)
    · cases h
end Ow
/-! What the tokens of a text are, as plain mathematics. -/
namespace Ow
open PySem L2
def letters : List Nat := [97,98,99,100,101,102,103,104,105,106,107,108,109,110,111,112,113,114,115,116,117,118,119,120,121,122,65,66,67,68,69,70,71,72,73,74,75,76,77,78,79,80,81,82,83,84,85,86,87,88,89,90]
def digits : List Nat := [48,49,50,51,52,53,54,55,56,57]
def isL (c : Nat) : Bool := decide (c ∈ letters)
def isD (c : Nat) : Bool := decide (c ∈ digits)
def isW (c : Nat) : Bool := isL c || isD c || decide (c = 95)
def kws : List Str := ["record", "variant", "fn", "let", "open", "as", "match", "ref", "mut", "if", "else", "while", "show", "push", "take", "par", "return", "true", "false", "box", "unbox", "vec", "len", "int", "bool", "from"]
def signs : List (List Nat) := [[61,61],[45,62],[123],[125],[40],[41],[91],[93],[44],[59],[58],[46],[61],[43],[45],[42],[60],[33]]
/-- a word ends here -/
def Bd (s : List Nat) : Prop := ∀ c r, s = c :: r → isW c = false
def NumOk (w : List Nat) : Prop := (∀ c ∈ w, isD c = true) ∧ ¬ (1 < w.length ∧ w[0]? = some 48) ∧ w.length ≤ 10 ∧ ∃ n : Int, PySem.intText? (S w) = some n ∧ n ≤ 4294967295
inductive TokW : Str → List Nat → List Nat → Prop
  | word (c : Nat) (r s : List Nat) : isL c = true → (∀ x ∈ r, isW x = true) → Bd s → TokW (if S (c :: r) ∈ kws then "keyword" else "name") (c :: r) s
  | num (c : Nat) (r s : List Nat) : isL c = false → isD c = true → NumOk (c :: r) → Bd s → TokW "number" (c :: r) s
  | sign (i c : Nat) (r s : List Nat) : isL c = false → isD c = false → c ≠ 10 → c ≠ 32 → c ≠ 35 → signs[i]? = some (c :: r) → (∀ j x, j < i → signs[j]? = some x → ¬ x <+: (c :: r) ++ s) → TokW "sign" (c :: r) s
abbrev Tk := Str × Str × Int × Int
inductive Toks : List Nat → List Nat → List Tk → Prop
  | fin (pre : List Nat) : Toks pre [] [("end", "", rowOf pre, colOf pre)]
  | nl {pre s : List Nat} {ts : List Tk} : Toks (pre ++ [10]) s ts → Toks pre (10 :: s) ts
  | sp {pre s : List Nat} {ts : List Tk} : Toks (pre ++ [32]) s ts → Toks pre (32 :: s) ts
  | cm {pre s : List Nat} (c : List Nat) {ts : List Tk} : 10 ∉ c → (s = [] ∨ ∃ r, s = 10 :: r) → Toks (pre ++ 35 :: c) s ts → Toks pre (35 :: (c ++ s)) ts
  | tk {pre s : List Nat} {k : Str} {w : List Nat} {ts : List Tk} : TokW k w s → Toks (pre ++ w) s ts → Toks pre (w ++ s) ((k, S w, rowOf pre, colOf pre) :: ts)
theorem TokW.ne {k : Str} {w s : List Nat} (h : TokW k w s) : w ≠ [] := by cases h <;> simp
theorem isW10 : isW 10 = false := by decide
theorem TokW.no10 {k : Str} {w s : List Nat} (h : TokW k w s) : 10 ∉ w := by
  cases h with
  | word c r s h1 h2 h3 =>
    intro hm
    rcases List.mem_cons.mp hm with rfl | hm
    · exact absurd h1 (by decide)
    · exact absurd (h2 _ hm) (by decide)
  | num c r s h0 h1 h2 h3 =>
    intro hm
    exact absurd (h2.1 _ hm) (by decide)
  | sign i c r s h0 h1 h2 h3 h4 h5 h6 =>
    have : ∀ x ∈ signs, 10 ∉ x := by decide
    exact this _ (List.mem_of_getElem? h5)
theorem rowOf_app {l w : List Nat} (h : 10 ∉ w) : rowOf (l ++ w) = rowOf l := by
  unfold rowOf
  rw [List.count_append, List.count_eq_zero.mpr h]
  rfl
theorem rowOf_nl (l : List Nat) : rowOf (l ++ [10]) = rowOf l + 1 := by
  unfold rowOf
  rw [List.count_append]
  show ((1 + (l.count 10 + 1) : Nat) : Int) = _
  omega
end Ow
namespace Ow
open PySem L2
def topS (i : Nat) : Stmt := PySem.Challenge.pw_oneowner_k00_tokens_of_a_program.main.body.getD i (.Pass ⟨0, 0, 0, 0⟩)
end Ow
namespace Ow
open PySem PySem.Spec PyProof.Rows L2
section
variable {P : Program} {w : World} {K : PySem.W.Frag} {mg : Str → Option Value} {base : Heap}
theorem cut_mid (pre wd s : List Nat) : cutS (S (pre ++ wd ++ s)) (some (pre.length : Int)) (some ((pre.length + wd.length : Nat) : Int)) = S wd := by
  unfold cutS
  rw [S_cps, S_len, HT.sIx_nat, HT.sIx_nat]
  have e : (pre ++ wd ++ s).length = pre.length + (wd.length + s.length) := by simp [Nat.add_assoc]
  rw [e, show min (pre.length + wd.length) (pre.length + (wd.length + s.length)) = pre.length + wd.length by omega,
    show min pre.length (pre.length + (wd.length + s.length)) = pre.length by omega,
    show pre.length + wd.length - pre.length = wd.length by omega, List.append_assoc, List.drop_left, List.take_left]
  rfl
/-! ### is_within_word -/
abbrev s_is_within_word : Stmt := topS 17
theorem sc_is_within_word : FnScope ["char"] ["char"] (defScope s_is_within_word) := ⟨rfl, rfl, rfl, by decide +kernel, rfl, by decide +kernel, by decide +kernel⟩
def sp_is_within_word : Sp := fun vs H Q _ => ∃ c : Nat, vs = [.str ⟨#[c]⟩] ∧ Q (.bl (isW c)) H
theorem ok_is_within_word {f : Addr} {fd : FuncData} (F : Fun K "is_within_word" "is_within_word" s_is_within_word f fd) (gL : GStr mg "LETTERS" (S letters)) (gD : GStr mg "DIGITS" (S digits)) :
    FnOk P w K mg base CX0 1 f fd ["char"] sp_is_within_word := by
  obtain ⟨tL, c_LETTERS⟩ := gL
  obtain ⟨tD, c_DIGITS⟩ := gD
  refine F.ok sc_is_within_word (fun vs H Q E h => ?_) (fun cdv A outer s H vs Q E hr h => ?_)
  · obtain ⟨c, rfl, _⟩ := h; rfl
  · obtain ⟨c, rfl, q⟩ := h
    refine ⟨_, (pss_one (ps_ret (pe_or (pe_cmpR op_in_sign (pv 0) (pe_glob rfl c_LETTERS rv_str) rfl) (pe_or (pe_cmpR op_in_sign (pv 0) (pe_glob rfl c_DIGITS rv_str) rfl) (pe_one (pe_cmpR op_eq (pv 0) pe_str (nomark _))))))), ?_⟩
    refine ⟨_, rfl, c, S letters, rfl, rfl, _, rfl, ?_⟩
    rw [S_cps]
    refine ite2 (fun h1 => ?_) (fun h1 => ?_)
    · have : isW c = true := by unfold isW isL; rw [h1]; rfl
      rw [this] at q; exact q
    refine ⟨_, rfl, c, S digits, rfl, rfl, _, rfl, ?_⟩
    rw [S_cps]
    refine ite2 (fun h2 => ?_) (fun h2 => ?_)
    · have : isW c = true := by unfold isW isD; rw [h2]; simp
      rw [this] at q; exact q
    refine ⟨_, rfl, rfl, ?_⟩
    have e : isW c = decide (V.str ⟨#[c]⟩ = V.str "_") := by
      unfold isW isL isD
      rw [Bool.eq_false_iff.mpr h1, Bool.eq_false_iff.mpr h2, Bool.false_or, Bool.false_or]
      have e2 : ("_" : Str) = ⟨#[95]⟩ := by decide +kernel
      rw [e2]
      by_cases hc : c = 95
      · subst hc; simp
      · simp [hc]
    rw [e] at q
    exact q
/-! ### word_at -/
abbrev s_word_at : Stmt := topS 16
theorem sc_word_at : FnScope ["text", "at", "end"] ["text", "at"] (defScope s_word_at) := ⟨rfl, rfl, rfl, by decide +kernel, rfl, by decide +kernel, by decide +kernel⟩
def sp_word_at : Sp := fun vs H Q _ => ∃ pre wd s : List Nat, vs = [.str (S (pre ++ wd ++ s)), .int pre.length] ∧ (pre ++ wd ++ s).length ≤ 1000000 ∧ (∀ c ∈ wd, isW c = true) ∧ Bd s ∧ Q (.str (S wd)) H
theorem ok_word_at {f : Addr} {fd : FuncData} (F : Fun K "word_at" "word_at" s_word_at f fd) (hW : Has P w K mg base 1 "is_within_word" ["char"] sp_is_within_word) (z_len : mg "len" = none) :
    FnOk P w K mg base CX0 2 f fd ["text", "at"] sp_word_at := by
  obtain ⟨f1, fd1, G_is_within_word, k_is_within_word, b_is_within_word, g_is_within_word⟩ := hW
  refine F.ok sc_word_at (fun vs H Q E h => ?_) (fun cdv A outer s H vs Q E hr h => ?_)
  · obtain ⟨pre, wd, s, rfl, _⟩ := h; rfl
  · obtain ⟨pre, wd, s, rfl, hlen, hw, hb, q⟩ := h
    have hl : (S (pre ++ wd ++ s)).length ≤ sizeLine := by rw [S_len]; exact Nat.le_trans hlen (by decide)
    refine ⟨_, (pss_cons (ps_set (i := 2) sc_word_at.nd rfl (.inl rfl) (pv 1))
      (pss_cons (ps_while PassesOwn.never (PW.pt (pw_and (pt_cmpR op_lt (pv 2) (pe_callB call_len_str (by rfl) z_len PySem.boot_len (pa_cons (pv 0) pa_nil)) (nomark _)) (pw_and1 (pt_val (pe_call G_is_within_word (hr.mono (by decide)) (by rfl) g_is_within_word k_is_within_word b_is_within_word .nil pass0 (pa_cons (pe_ix ix_str (pv 0) (pv 2) (fun _ _ => rfl)) pa_nil))))))
        (pss_one (ps_aug (i := 2) sc_word_at.nd rfl (.inl rfl) pe_int ip_add)))
      (pss_one (ps_ret (pe_slice sl_str (pv 0) (po_some (pv 1)) (po_some (pv 2))))))), ?_⟩
    refine ⟨_, rfl, ?_⟩
    refine ⟨fun m σ H1 => ∃ j : Nat, m + j = wd.length ∧ H1 = H ∧ σ = [some (.str (S (pre ++ wd ++ s))), some (.int pre.length), some (.int ((pre.length + j : Nat) : Int))], ⟨wd.length, 0, rfl, rfl, rfl⟩, ?_⟩
    rintro m σ H1 ⟨j, hj, rfl, rfl⟩
    refine ⟨_, rfl, _, rfl, _, rfl, hl, _, _, rfl, rfl, _, rfl, ?_⟩
    rw [S_len]
    by_cases h1 : pre.length + j < (pre ++ wd ++ s).length
    · rw [decide_eq_true (by omega : ((pre.length + j : Nat) : Int) < (((pre ++ wd ++ s).length : Nat) : Int))]
      refine iteT ?_
      have hg : atI (S (pre ++ wd ++ s)).cps.toList ((pre.length + j : Nat) : Int) = some ((pre ++ wd ++ s)[pre.length + j]) := by
        rw [S_cps]
        exact (atI_nat (List.getElem?_eq_getElem h1))
      refine ⟨_, rfl, _, rfl, _, _, _, rfl, rfl, hl, hg, _, rfl, _, rfl, ?_⟩
      by_cases h2 : j < wd.length
      · have e2 : (pre ++ wd ++ s)[pre.length + j] = wd[j] := by
          rw [List.getElem_append_left (by simp; omega), List.getElem_append_right (by omega)]
          congr 1; omega
        rw [e2, hw _ (List.getElem_mem h2)]
        refine iteT ?_
        refine ⟨fun σ' H' => ∃ m', m' < m ∧ ∃ j : Nat, m' + j = wd.length ∧ H' = H1 ∧ σ' = [some (.str (S (pre ++ wd ++ s))), some (.int pre.length), some (.int ((pre.length + j : Nat) : Int))], fun σ' H' h => h, ?_⟩
        refine ⟨_, rfl, _, _, rfl, rfl, m - 1, by omega, j + 1, by omega, rfl, rfl⟩
      · have e3 : j = wd.length := by omega
        have e2 : ∃ r, s = (pre ++ wd ++ s)[pre.length + j] :: r := by
          rw [List.getElem_append_right (by simp; omega)]
          have h5 : 0 < s.length := by simp at h1; omega
          cases s with
          | nil => simp at h5
          | cons c r => exact ⟨r, by simp [e3]⟩
        obtain ⟨r, e2⟩ := e2
        rw [hb _ _ e2]
        refine iteF ?_
        refine ⟨_, rfl, _, rfl, _, rfl, _, rfl, _, rfl, _, rfl, hl, ?_⟩
        rw [e3]
        rw [cut_mid pre wd s]
        exact q
    · rw [decide_eq_false (by omega : ¬ ((pre.length + j : Nat) : Int) < (((pre ++ wd ++ s).length : Nat) : Int))]
      refine iteF ?_
      have e3 : j = wd.length := by simp at h1; omega
      have e5 : s = [] := by
        cases s with
        | nil => rfl
        | cons c r => simp at h1; omega
      subst e5
      refine ⟨_, rfl, _, rfl, _, rfl, _, rfl, _, rfl, _, rfl, hl, ?_⟩
      rw [e3]
      have e4 : cutS (S (pre ++ wd ++ [])) (some (pre.length : Int)) (some ((pre.length + wd.length : Nat) : Int)) = S wd := cut_mid pre wd []
      rw [e4]
      exact q
end
end Ow
namespace Ow
open PySem PySem.Spec PyProof.Rows L2
section
variable {P : Program} {w : World} {K : PySem.W.Frag} {mg : Str → Option Value} {base : Heap}
/-! ### is_number -/
abbrev s_is_number : Stmt := topS 18
theorem sc_is_number : FnScope ["word", "char"] ["word"] (defScope s_is_number) := ⟨rfl, rfl, rfl, by decide +kernel, rfl, by decide +kernel, by decide +kernel⟩
def sp_is_number : Sp := fun vs H Q _ => ∃ wd : List Nat, vs = [.str (S wd)] ∧ wd ≠ [] ∧ NumOk wd ∧ Q (.bl true) H
theorem ok_is_number {f : Addr} {fd : FuncData} (F : Fun K "is_number" "is_number" s_is_number f fd) (gD : GStr mg "DIGITS" (S digits)) (gL : GInt mg "GREATEST_LENGTH" 10) (gW : GInt mg "GREATEST_WORD" 4294967295) (z_len : mg "len" = none) (z_int : mg "int" = none) :
    FnOk P w K mg base CX0 1 f fd ["word"] sp_is_number := by
  obtain ⟨tD, c_DIGITS⟩ := gD
  obtain ⟨tL, c_GREATEST_LENGTH⟩ := gL
  obtain ⟨tW, c_GREATEST_WORD⟩ := gW
  refine F.ok sc_is_number (fun vs H Q E h => ?_) (fun cdv A outer s H vs Q E hr h => ?_)
  · obtain ⟨c, rfl, _⟩ := h; rfl
  · obtain ⟨wd, rfl, hne, ⟨hd, h0, hl, n, hn, hb⟩, q⟩ := h
    have hlen : (S wd).length ≤ sizeLine := by rw [S_len]; exact Nat.le_trans hl (by decide)
    refine ⟨_, (pss_cons (ps_for PassesOwn.never rfl (pi_str (pv 0)) (pg_name (i := 1) sc_is_number.nd rfl (.inl rfl))
        (pss_one (ps_if (pt_cmpR op_notIn_sign (pv 1) (pe_glob rfl c_DIGITS rv_str) rfl)
          (pss_one (ps_ret pe_bl))
          pss_nil)))
      (pss_cons (ps_if (PW.pt (pw_and (pt_cmpR op_gt (pe_callB call_len_str (by rfl) z_len PySem.boot_len (pa_cons (pv 0) pa_nil)) pe_int (nomark _)) (pw_and1 (pt_cmpR op_eq (pe_ix ix_str (pv 0) pe_int (fun _ _ => rfl)) pe_str (nomark _)))))
        (pss_one (ps_ret pe_bl))
        pss_nil)
      (pss_one (ps_ret (pe_and (pe_cmpR op_le (pe_callB call_len_str (by rfl) z_len PySem.boot_len (pa_cons (pv 0) pa_nil)) (pe_glob rfl c_GREATEST_LENGTH rv_int) (nomark _)) (pe_one (pe_cmpR op_le (pe_callTy call_int_str (by rfl) z_int (by decide +kernel) (pa_cons (pv 0) pa_nil)) (pe_glob rfl c_GREATEST_WORD rv_int) (nomark _)))))))), ?_⟩
    refine ⟨_, rfl, _, rfl, for_str (fun i σ H1 => ∃ y, σ = [some (.str (S wd)), y] ∧ H1 = H) ⟨_, rfl, rfl⟩ ?_ ?_⟩
    · rintro i c σ H1 hc ⟨y, rfl, rfl⟩
      refine ⟨_, rfl, c, S digits, rfl, rfl, _, rfl, ?_⟩
      have hm : c ∈ wd := by rw [S_cps] at hc; exact List.mem_of_getElem? hc
      have h1 : decide (c ∈ digits) = true := hd c hm
      rw [S_cps, h1]
      refine iteF ?_
      exact ⟨_, rfl, rfl⟩
    · rintro σ H1 ⟨y, rfl, rfl⟩
      refine ⟨_, rfl, _, rfl, hlen, _, _, rfl, rfl, _, rfl, ?_⟩
      rw [S_len]
      have fin : tRet (tAndV (tOp (rI0 fun i j => .bl (decide (i ≤ j))) (tCB (fun xs H Q => ∃ z, xs = [.str z] ∧ z.length ≤ sizeLine ∧ Q (.int z.length) H) (tCons (tVar 0) tNil)) (tC (.int 10))) (tOp (rI0 fun i j => .bl (decide (i ≤ j))) (tCB (fun xs H Q => ∃ a n, xs = [.str a] ∧ PySem.intText? a = some n ∧ a.length ≤ 640 ∧ Q (.int n) H) (tCons (tVar 0) tNil)) (tC (.int 4294967295)))) { nx := fun _ H' => Q .non H', rt := Q } [some (.str (S wd)), y] H1 := by
        refine ⟨_, rfl, _, rfl, hlen, _, _, rfl, rfl, _, rfl, ?_⟩
        rw [S_len, decide_eq_true (by omega : ((wd.length : Nat) : Int) ≤ 10)]
        refine iteT ?_
        refine ⟨_, rfl, _, n, rfl, hn, by rw [S_len]; omega, _, _, rfl, rfl, ?_⟩
        show Q (.bl (decide (n ≤ 4294967295))) H1
        rw [decide_eq_true hb]
        exact q
      by_cases h1 : 1 < wd.length
      · rw [decide_eq_true (by omega : (1 : Int) < ((wd.length : Nat) : Int))]
        refine iteT ?_
        have hg : atI (S wd).cps.toList (0 : Int) = some (wd[0]'(by omega)) := by
          rw [S_cps]; exact atI_nat (j := 0) (List.getElem?_eq_getElem (by omega))
        refine ⟨_, rfl, _, _, _, rfl, rfl, hlen, hg, rfl, _, rfl, ?_⟩
        have hz : ¬ wd[0]'(by omega) = 48 := fun e => h0 ⟨h1, by rw [List.getElem?_eq_getElem (by omega), e]⟩
        have e2 : ("0" : Str) = ⟨#[48]⟩ := by decide +kernel
        rw [e2, decide_eq_false (fun e => hz (by injection e with e; injection e with e; simpa using e))]
        refine iteF ?_
        exact fin
      · rw [decide_eq_false (by omega : ¬ (1 : Int) < ((wd.length : Nat) : Int))]
        refine iteF ?_
        exact iteF fin
/-! ### comment_end -/
abbrev s_comment_end : Stmt := topS 14
theorem sc_comment_end : FnScope ["text", "at", "newline"] ["text", "at"] (defScope s_comment_end) := ⟨rfl, rfl, rfl, by decide +kernel, rfl, by decide +kernel, by decide +kernel⟩
def sp_comment_end : Sp := fun vs H Q _ => ∃ pre c s : List Nat, vs = [.str (S (pre ++ c ++ s)), .int pre.length] ∧ (pre ++ c ++ s).length ≤ 1000000 ∧ 10 ∉ c ∧ (s = [] ∨ ∃ r, s = 10 :: r) ∧ Q (.int ((pre.length + c.length : Nat) : Int)) H
theorem find_nl (pre c s : List Nat) (h : 10 ∉ c) (hs : s = [] ∨ ∃ r, s = 10 :: r) : Txt.find3 (S (pre ++ c ++ s)) "\n" (pre.length : Int) = if s = [] then -1 else ((pre.length + c.length : Nat) : Int) := by
  rw [nl_eq]
  have ef : PySem.fromIndex (S (pre ++ c ++ s)).length (pre.length : Int) = pre.length := by
    rw [S_len]
    unfold PySem.fromIndex
    rw [if_neg (by omega)]
    omega
  have hg : ∀ v, v < (S (pre ++ c ++ s)).length → (S (pre ++ c ++ s)).cps.getD v 0 = 10 → (pre ++ c ++ s)[v]? = some 10 := fun v h1 h2 => by
    have := StrLaws.getElem?_of_getD h1 h2
    rwa [S_cps] at this
  have hc : ∀ v, pre.length ≤ v → v < pre.length + c.length → (pre ++ c ++ s)[v]? ≠ some 10 := fun v h1 h2 h3 => by
    rw [List.getElem?_append_left (by simp; omega), List.getElem?_append_right h1] at h3
    exact h (List.mem_of_getElem? h3)
  rcases StrLaws.find3_spec (S (pre ++ c ++ s)) 10 (pre.length : Int) with ⟨h1, h2⟩ | ⟨k, h1, h2, h3, h4, h5⟩
  · rw [ef] at h2
    rcases hs with rfl | ⟨r, rfl⟩
    · rw [if_pos rfl]; exact h1
    · exfalso
      refine h2 (pre.length + c.length) (by omega) (by rw [S_len]; simp) ?_
      refine StrLaws.getD_of_getElem? ?_
      rw [S_cps, List.getElem?_append_right (by simp)]
      simp
  · rw [ef] at h2 h5
    have h6 := hg k h3 h4
    have h7 : ¬ k < pre.length + c.length := fun h8 => hc k h2 h8 h6
    rcases hs with rfl | ⟨r, rfl⟩
    · rw [S_len] at h3; simp at h3; omega
    · rw [if_neg (by simp), h1]
      have h9 : ¬ pre.length + c.length < k := fun h8 => by
        refine h5 (pre.length + c.length) (by omega) h8 (StrLaws.getD_of_getElem? ?_)
        rw [S_cps, List.getElem?_append_right (by simp)]
        simp
      have : k = pre.length + c.length := by omega
      rw [this]
theorem ok_comment_end {f : Addr} {fd : FuncData} (F : Fun K "comment_end" "comment_end" s_comment_end f fd) (z_len : mg "len" = none) :
    FnOk P w K mg base CX0 1 f fd ["text", "at"] sp_comment_end := by
  refine F.ok sc_comment_end (fun vs H Q E h => ?_) (fun cdv A outer s H vs Q E hr h => ?_)
  · obtain ⟨_, _, _, rfl, _⟩ := h; rfl
  · obtain ⟨pre, c, s, rfl, hl, hc, hs, q⟩ := h
    have hlen : (S (pre ++ c ++ s)).length ≤ sizeLine := by rw [S_len]; exact Nat.le_trans hl (by decide)
    refine ⟨_, (pss_cons (ps_set (i := 2) sc_comment_end.nd rfl (.inl rfl) (pe_bm PySem.F.plainAttrs_str PySem.F.slot_str_find PySem.F.type_str_find mt_find3 (pv 0) (pa_cons pe_str (pa_cons (pv 1) pa_nil))))
      (pss_cons (ps_if (pt_cmpR op_lt (pv 2) pe_int (nomark _))
        (pss_one (ps_ret (pe_callB call_len_str (by rfl) z_len PySem.boot_len (pa_cons (pv 0) pa_nil))))
        pss_nil)
      (pss_one (ps_ret (pv 2))))), ?_⟩
    refine ⟨_, rfl, rfl, _, rfl, _, _, _, rfl, rfl, ?_⟩
    rw [find_nl pre c s hc hs]
    rcases hs with rfl | ⟨r, rfl⟩
    · rw [if_pos rfl]
      refine ⟨_, rfl, _, _, rfl, rfl, _, rfl, iteT ?_⟩
      refine ⟨_, rfl, _, rfl, hlen, ?_⟩
      rw [S_len]
      simpa using q
    · rw [if_neg (by simp)]
      refine ⟨_, rfl, _, _, rfl, rfl, _, rfl, ?_⟩
      rw [decide_eq_false (by omega)]
      exact iteF ⟨_, rfl, q⟩
end
end Ow
namespace Ow
open PySem PySem.Spec PyProof.Rows L2
section
variable {P : Program} {w : World} {K : PySem.W.Frag} {mg : Str → Option Value} {base : Heap}
/-! ### token_at -/
abbrev s_token_at : Stmt := topS 15
theorem sc_token_at : FnScope ["text", "at", "row", "column", "word"] ["text", "at", "row", "column"] (defScope s_token_at) := ⟨rfl, rfl, rfl, by decide +kernel, rfl, by decide +kernel, by decide +kernel⟩
def tupV (k : Str) (wd : List Nat) (r c : Int) : List V := [.str k, .str (S wd), .int r, .int c]
def sp_token_at : Sp := fun vs H Q _ => ∃ (pre wd s : List Nat) (k : Str) (r c : Int), vs = [.str (S (pre ++ wd ++ s)), .int pre.length, .int r, .int c] ∧ (pre ++ wd ++ s).length ≤ 1000000 ∧ TokW k wd s ∧
  ∀ p, H p = none → Q (.ref p) (upd H p (.tup (tupV k wd r c)))
def longs : List Str := [S [61, 61], S [45, 62]]
def shorts : List Nat := [123, 125, 40, 41, 91, 93, 44, 59, 58, 46, 61, 43, 45, 42, 60, 33]
theorem cut_two (pre rest : List Nat) : cutS (S (pre ++ rest)) (some (pre.length : Int)) (some ((pre.length : Int) + 2)) = S (rest.take 2) := by
  unfold cutS
  rw [S_cps, S_len, HT.sIx_nat, show ((pre.length : Int) + 2) = ((pre.length + 2 : Nat) : Int) by omega, HT.sIx_nat]
  have e : (pre ++ rest).length = pre.length + rest.length := by simp
  rw [e, show min pre.length (pre.length + rest.length) = pre.length by omega, List.drop_left]
  by_cases h : 2 ≤ rest.length
  · rw [show min (pre.length + 2) (pre.length + rest.length) - pre.length = 2 by omega]; rfl
  · rw [show min (pre.length + 2) (pre.length + rest.length) - pre.length = rest.length by omega, List.take_length, List.take_of_length_le (by omega)]; rfl
theorem sign_two {i : Nat} {x : List Nat} (h : signs[i]? = some x) : (i < 2 ∧ S x ∈ longs ∧ x.length = 2) ∨ (2 ≤ i ∧ ∃ c ∈ shorts, x = [c]) := by
  have hi : i < 18 := by
    have := (List.getElem?_eq_some_iff.mp h).1
    simpa [signs] using this
  have d : ∀ j ∈ List.range 18, (match signs[j]? with | some x => (decide (j < 2) && (decide (x = [61, 61]) || decide (x = [45, 62]))) || (decide (2 ≤ j) && match x with | [c] => shorts.contains c | _ => false) | none => true) = true := by decide
  have := d i (List.mem_range.mpr hi)
  rw [h] at this
  simp only [Bool.or_eq_true, Bool.and_eq_true, decide_eq_true_eq] at this
  rcases this with ⟨h1, h2⟩ | ⟨h1, h2⟩
  · refine .inl ⟨h1, ?_, ?_⟩
    · rcases h2 with rfl | rfl <;> simp [longs]
    · rcases h2 with rfl | rfl <;> rfl
  · refine .inr ⟨h1, ?_⟩
    split at h2
    · rename_i c
      exact ⟨c, by simpa using h2, rfl⟩
    · cases h2
theorem not_long {rest : List Nat} (h1 : ¬ [61, 61] <+: rest) (h2 : ¬ [45, 62] <+: rest) : S (rest.take 2) ∉ longs := by
  intro h
  simp only [longs, List.mem_cons, List.not_mem_nil, or_false] at h
  rcases h with h | h
  · exact h1 (by rw [← S_inj h]; exact List.take_prefix ..)
  · exact h2 (by rw [← S_inj h]; exact List.take_prefix ..)
theorem not_short {c : Nat} {r : List Nat} (h : ∀ x ∈ signs, ¬ x <+: c :: r) : decide (c ∈ shorts) = false := by
  refine decide_eq_false fun hc => ?_
  have d : ∀ c ∈ shorts, [c] ∈ signs := by decide
  exact h _ (d c hc) ⟨r, rfl⟩
theorem four {a b c d : V} : [a, b, c, d].length ≤ sizeLine := by show 4 ≤ sizeLine; decide
theorem ok_token_at {f : Addr} {fd : FuncData} (F : Fun K "token_at" "token_at" s_token_at f fd) (gL : GStr mg "LETTERS" (S letters)) (gD : GStr mg "DIGITS" (S digits)) (gK : GTup K mg "KEYWORDS" (kws.map V.str)) (gS : GTup K mg "LONG_SIGNS" (longs.map V.str)) (gO : GStr mg "SHORT_SIGNS" (S shorts))
    (hW : Has P w K mg base 2 "word_at" ["text", "at"] sp_word_at) (hN : Has P w K mg base 1 "is_number" ["word"] sp_is_number) :
    FnOk P w K mg base CX0 3 f fd ["text", "at", "row", "column"] sp_token_at := by
  obtain ⟨tL, c_LETTERS⟩ := gL
  obtain ⟨tD, c_DIGITS⟩ := gD
  obtain ⟨aK, c_KEYWORDS, hK⟩ := gK
  obtain ⟨aS, c_LONG_SIGNS, hS⟩ := gS
  obtain ⟨tO, c_SHORT_SIGNS⟩ := gO
  obtain ⟨f1, fd1, G_word_at, k_word_at, b_word_at, g_word_at⟩ := hW
  obtain ⟨f2, fd2, G_is_number, k_is_number, b_is_number, g_is_number⟩ := hN
  refine F.ok sc_token_at (fun vs H Q E h => ?_) (fun cdv A outer s H vs Q E hr h => ?_)
  · obtain ⟨_, _, _, _, _, _, rfl, _⟩ := h; rfl
  · obtain ⟨pre, wd, s, k, r, c, rfl, hl, tw, q⟩ := h
    have hlen : (S (pre ++ wd ++ s)).length ≤ sizeLine := by rw [S_len]; exact Nat.le_trans hl (by decide)
    refine ⟨_, (pss_cons (ps_if (pt_cmpR op_in_sign (pe_ix ix_str (pv 0) (pv 1) (fun _ _ => rfl)) (pe_glob rfl c_LETTERS rv_str) rfl)
        (pss_cons (ps_set (i := 4) sc_token_at.nd rfl (.inl rfl) (pe_call G_word_at (hr.mono (by decide)) (by rfl) g_word_at k_word_at b_word_at .nil pass0 (pa_cons (pv 0) (pa_cons (pv 1) pa_nil))))
        (pss_cons (ps_if (pt_cmpR op_in_seq (pv 4) (pe_glob rfl c_KEYWORDS rv_ref) rfl)
          (pss_one (ps_ret (pe_tup (pa_cons pe_str (pa_cons (pv 4) (pa_cons (pv 2) (pa_cons (pv 3) pa_nil)))))))
          pss_nil)
        (pss_one (ps_ret (pe_tup (pa_cons pe_str (pa_cons (pv 4) (pa_cons (pv 2) (pa_cons (pv 3) pa_nil)))))))))
        pss_nil)
      (pss_cons (ps_if (pt_cmpR op_in_sign (pe_ix ix_str (pv 0) (pv 1) (fun _ _ => rfl)) (pe_glob rfl c_DIGITS rv_str) rfl)
        (pss_cons (ps_set (i := 4) sc_token_at.nd rfl (.inl rfl) (pe_call G_word_at (hr.mono (by decide)) (by rfl) g_word_at k_word_at b_word_at .nil pass0 (pa_cons (pv 0) (pa_cons (pv 1) pa_nil))))
        (pss_cons (ps_if (pt_not (pt_val (pe_call G_is_number (hr.mono (by decide)) (by rfl) g_is_number k_is_number b_is_number .nil pass0 (pa_cons (pv 4) pa_nil))))
          (pss_one ps_never)
          pss_nil)
        (pss_one (ps_ret (pe_tup (pa_cons pe_str (pa_cons (pv 4) (pa_cons (pv 2) (pa_cons (pv 3) pa_nil)))))))))
        pss_nil)
      (pss_cons (ps_if (pt_cmpR op_in_seq (pe_slice sl_str (pv 0) (po_some (pv 1)) (po_some (pe_op op_add (pv 1) pe_int))) (pe_glob rfl c_LONG_SIGNS rv_ref) rfl)
          (pss_one (ps_ret (pe_tup (pa_cons pe_str (pa_cons (pe_slice sl_str (pv 0) (po_some (pv 1)) (po_some (pe_op op_add (pv 1) pe_int))) (pa_cons (pv 2) (pa_cons (pv 3) pa_nil)))))))
          pss_nil)
      (pss_cons (ps_if (pt_cmpR op_in_sign (pe_ix ix_str (pv 0) (pv 1) (fun _ _ => rfl)) (pe_glob rfl c_SHORT_SIGNS rv_str) rfl)
          (pss_one (ps_ret (pe_tup (pa_cons pe_str (pa_cons (pe_ix ix_str (pv 0) (pv 1) (fun _ _ => rfl)) (pa_cons (pv 2) (pa_cons (pv 3) pa_nil)))))))
          pss_nil)
      (pss_one ps_never))))), ?_⟩
    have first : ∀ c0 r0, wd = c0 :: r0 → atI (S (pre ++ wd ++ s)).cps.toList (pre.length : Int) = some c0 := fun c0 r0 e => by
      rw [S_cps]
      refine atI_nat ?_
      rw [List.append_assoc, List.getElem?_append_right (Nat.le_refl _), e]
      simp
    cases tw with
    | word c0 r0 _ h1 h2 h3 =>
      refine ⟨_, rfl, _, rfl, _, _, c0, rfl, rfl, hlen, first c0 r0 rfl, c0, S letters, rfl, rfl, _, rfl, ?_⟩
      rw [S_cps, show decide (c0 ∈ letters) = true from h1]
      refine iteT ?_
      refine ⟨_, rfl, _, rfl, pre, c0 :: r0, s, rfl, hl, ?_, h3, ?_⟩
      · intro x hx
        rcases List.mem_cons.mp hx with rfl | hx
        · unfold isW; rw [h1]; rfl
        · exact h2 x hx
      refine ⟨_, rfl, aK, _, rfl, .inr (hK _), rfl, flat_strs _, _, rfl, ?_⟩
      rw [inV_str]
      by_cases hk : S (c0 :: r0) ∈ kws
      · rw [decide_eq_true hk]
        refine iteT ?_
        rw [if_pos hk] at q
        exact ⟨_, rfl, _, rfl, _, rfl, four, q⟩
      · rw [decide_eq_false hk]
        refine iteF ?_
        rw [if_neg hk] at q
        exact ⟨_, rfl, _, rfl, _, rfl, four, q⟩
    | num c0 r0 _ h0 h1 h2 h3 =>
      refine ⟨_, rfl, _, rfl, _, _, c0, rfl, rfl, hlen, first c0 r0 rfl, c0, S letters, rfl, rfl, _, rfl, ?_⟩
      rw [S_cps, show decide (c0 ∈ letters) = false from h0]
      refine iteF ?_
      refine ⟨_, rfl, _, rfl, _, _, c0, rfl, rfl, hlen, first c0 r0 rfl, c0, S digits, rfl, rfl, _, rfl, ?_⟩
      rw [S_cps, show decide (c0 ∈ digits) = true from h1]
      refine iteT ?_
      refine ⟨_, rfl, _, rfl, pre, c0 :: r0, s, rfl, hl, ?_, h3, ?_⟩
      · intro x hx
        unfold isW
        rw [h2.1 x hx]
        simp
      refine ⟨_, rfl, c0 :: r0, rfl, by simp, h2, _, rfl, iteF ?_⟩
      exact ⟨_, rfl, _, rfl, _, rfl, four, q⟩
    | sign i c0 r0 _ h0 h1 h2 h3 h4 h5 h6 =>
      refine ⟨_, rfl, _, rfl, _, _, c0, rfl, rfl, hlen, first c0 r0 rfl, c0, S letters, rfl, rfl, _, rfl, ?_⟩
      rw [S_cps, show decide (c0 ∈ letters) = false from h0]
      refine iteF ?_
      refine ⟨_, rfl, _, rfl, _, _, c0, rfl, rfl, hlen, first c0 r0 rfl, c0, S digits, rfl, rfl, _, rfl, ?_⟩
      rw [S_cps, show decide (c0 ∈ digits) = false from h1]
      refine iteF ?_
      have first' : atI (S (pre ++ (c0 :: r0 ++ s))).cps.toList (pre.length : Int) = some c0 := by rw [← List.append_assoc]; exact first c0 r0 rfl
      have hlen' : (S (pre ++ (c0 :: r0 ++ s))).length ≤ sizeLine := by rw [← List.append_assoc]; exact hlen
      rw [List.append_assoc]
      refine ⟨_, rfl, _, rfl, _, rfl, _, rfl, _, _, rfl, rfl, _, rfl, _, rfl, hlen', ?_⟩
      rw [cut_two]
      refine ⟨aS, _, rfl, .inr (hS _), rfl, flat_strs _, _, rfl, ?_⟩
      rw [inV_str]
      rcases sign_two h5 with ⟨hi, hm, hl2⟩ | ⟨hi, c1, hc1, e1⟩
      · have et : ((c0 :: r0) ++ s).take 2 = c0 :: r0 := by rw [← hl2]; exact List.take_left
        rw [et, decide_eq_true hm]
        refine iteT ?_
        refine ⟨_, rfl, _, rfl, _, rfl, _, rfl, _, _, rfl, rfl, _, rfl, _, rfl, hlen', ?_⟩
        rw [cut_two, et]
        exact ⟨_, rfl, _, rfl, four, q⟩
      · have nl := not_long (h6 0 _ (by omega) rfl) (h6 1 _ (by omega) rfl)
        rw [decide_eq_false nl]
        refine iteF ?_
        injection e1 with e1 e2
        subst e1 e2
        refine ⟨_, rfl, _, rfl, _, _, c0, rfl, rfl, hlen', first', c0, S shorts, rfl, rfl, _, rfl, ?_⟩
        rw [S_cps, show decide (c0 ∈ shorts) = true from decide_eq_true hc1]
        refine iteT ?_
        refine ⟨_, rfl, _, rfl, _, _, c0, rfl, rfl, hlen', first', ?_⟩
        exact ⟨_, rfl, _, rfl, four, q⟩
end
end Ow
namespace Ow
open PySem PySem.Spec PyProof.Rows L2
section
variable {P : Program} {w : World} {K : PySem.W.Frag} {mg : Str → Option Value} {base : Heap}
/-! ### tokens -/
abbrev s_tokens : Stmt := topS 13
theorem sc_tokens : FnScope ["text", "found", "at", "row", "row_begin", "char", "token"] ["text"] (defScope s_tokens) := ⟨rfl, rfl, rfl, by decide +kernel, rfl, by decide +kernel, by decide +kernel⟩
/-- the tuples of these tokens stand at these addresses -/
def TokAt (H : Hp) (p : Addr) (t : Tk) : Prop := H p = some (.tup [.str t.1, .str t.2.1, .int t.2.2.1, .int t.2.2.2])
abbrev TL (H : Hp) (ps : List Addr) (ts : List Tk) : Prop := Paired (TokAt H) ps ts
theorem pairedApp {α β : Type} {F : α → β → Prop} : ∀ {l : List α} {m : List β} {a : α} {b : β}, Paired F l m → F a b → Paired F (l ++ [a]) (m ++ [b])
  | _, _, _, _, .nil, h => .cons h .nil
  | _, _, _, _, .cons r t, h => .cons r (pairedApp t h)
theorem TL.same {H H' : Hp} {ps : List Addr} {ts : List Tk} (h : TL H ps ts) (s : ∀ b xs, H b = some (.tup xs) → H' b = some (.tup xs)) : TL H' ps ts := L2.Paired.mapP h fun p t e => s _ _ e
theorem Toks.nil_inv {pre : List Nat} {rest : List Tk} (h : Toks pre [] rest) : rest = [(("end", "", rowOf pre, colOf pre) : Tk)] := by
  generalize e : ([] : List Nat) = u at h
  cases h with
  | fin => rfl
  | nl h => cases e
  | sp h => cases e
  | cm c h1 h2 h3 => cases e
  | tk tw h =>
    exact absurd (List.append_eq_nil_iff.mp e.symm).1 tw.ne
theorem beg_app (l w : List Nat) (n : Nat) (h : n = w.length) : l.length + n - (tl l + n) = l.length - tl l := by omega
def sp_tokens : Sp := fun vs H Q _ => ∃ (l : List Nat) (ts : List Tk), vs = [.str (S l)] ∧ l.length ≤ 1000000 ∧ Toks [] l ts ∧
  ∀ H' p ps, Same H H' → H p = none → H' p = some (.lst (ps.map V.ref)) → TL H' ps ts → Q (.ref p) H'
theorem ok_tokens {f : Addr} {fd : FuncData} (F : Fun K "tokens" "tokens" s_tokens f fd)
    (hC : Has P w K mg base 1 "comment_end" ["text", "at"] sp_comment_end) (hT : Has P w K mg base 3 "token_at" ["text", "at", "row", "column"] sp_token_at) (z_len : mg "len" = none) :
    FnOk P w K mg base CX0 4 f fd ["text"] sp_tokens := by
  obtain ⟨f1, fd1, G_comment_end, k_comment_end, b_comment_end, g_comment_end⟩ := hC
  obtain ⟨f2, fd2, G_token_at, k_token_at, b_token_at, g_token_at⟩ := hT
  refine F.ok sc_tokens (fun vs H Q E h => ?_) (fun cdv A outer s H vs Q E hr h => ?_)
  · obtain ⟨_, _, rfl, _⟩ := h; rfl
  · obtain ⟨l, ts, rfl, hl, tk, q⟩ := h
    have hlen : (S l).length ≤ sizeLine := by rw [S_len]; exact Nat.le_trans hl (by decide)
    refine ⟨_, (pss_cons (ps_set (i := 1) sc_tokens.nd rfl (.inl rfl) (pe_lst pa_nil))
      (pss_cons (ps_set (i := 2) sc_tokens.nd rfl (.inl rfl) pe_int)
      (pss_cons (ps_set (i := 3) sc_tokens.nd rfl (.inl rfl) pe_int)
      (pss_cons (ps_set (i := 4) sc_tokens.nd rfl (.inl rfl) pe_int)
      (pss_cons (ps_while PassesOwn.never (pt_cmpR op_lt (pv 2) (pe_callB call_len_str (by rfl) z_len PySem.boot_len (pa_cons (pv 0) pa_nil)) (nomark _))
        (pss_cons (ps_set (i := 5) sc_tokens.nd rfl (.inl rfl) (pe_ix ix_str (pv 0) (pv 2) (fun _ _ => rfl)))
        (pss_one (ps_if (pt_cmpR op_eq (pv 5) pe_str (nomark _))
          (pss_cons (ps_aug (i := 2) sc_tokens.nd rfl (.inl rfl) pe_int ip_add)
          (pss_cons (ps_aug (i := 3) sc_tokens.nd rfl (.inl rfl) pe_int ip_add)
          (pss_one (ps_set (i := 4) sc_tokens.nd rfl (.inl rfl) (pv 2)))))
          (pss_one (ps_if (pt_cmpR op_eq (pv 5) pe_str (nomark _))
            (pss_one (ps_aug (i := 2) sc_tokens.nd rfl (.inl rfl) pe_int ip_add))
            (pss_one (ps_if (pt_cmpR op_eq (pv 5) pe_str (nomark _))
              (pss_one (ps_set (i := 2) sc_tokens.nd rfl (.inl rfl) (pe_call G_comment_end (hr.mono (by decide)) (by rfl) g_comment_end k_comment_end b_comment_end .nil pass0 (pa_cons (pv 0) (pa_cons (pv 2) pa_nil)))))
              (pss_cons (ps_set (i := 6) sc_tokens.nd rfl (.inl rfl) (pe_call G_token_at (hr.mono (by decide)) (by rfl) g_token_at k_token_at b_token_at .nil pass0 (pa_cons (pv 0) (pa_cons (pv 2) (pa_cons (pv 3) (pa_cons (pe_op op_add (pe_op op_sub (pv 2) (pv 4)) pe_int) pa_nil))))))
              (pss_cons (ps_expr (pe_bm PySem.F.plainAttrs_list PySem.F.slot_list_append PySem.F.type_list_append mt_append (pv 1) (pa_cons (pv 6) pa_nil)))
              (pss_one (ps_aug (i := 2) sc_tokens.nd rfl (.inl rfl) (pe_callB call_len_str (by rfl) z_len PySem.boot_len (pa_cons (pe_ix ix_tup (pv 6) pe_int (fun _ _ => rfl)) pa_nil)) ip_add))))))))))))
      (pss_cons (ps_expr (pe_bm PySem.F.plainAttrs_list PySem.F.slot_list_append PySem.F.type_list_append mt_append (pv 1) (pa_cons (pe_tup (pa_cons pe_str (pa_cons pe_str (pa_cons (pv 3) (pa_cons (pe_op op_add (pe_op op_sub (pv 2) (pv 4)) pe_int) pa_nil))))) pa_nil)))
      (pss_one (ps_ret (pv 1))))))))), ?_⟩
    refine ⟨Nat.zero_le _, fun a na => ?_⟩
    -- the loop
    refine ⟨fun m σ H1 => ∃ (pre suf : List Nat) (done rest : List Tk) (ps : List Addr) (y5 y6 : Option V), m = suf.length ∧ l = pre ++ suf ∧ Toks pre suf rest ∧ ts = done ++ rest ∧ done.length ≤ pre.length ∧ Same H H1 ∧
        H1 a = some (.lst (ps.map V.ref)) ∧ TL H1 ps done ∧
        σ = [some (.str (S l)), some (.ref a), some (.int (pre.length : Nat)), some (.int (rowOf pre)), some (.int ((pre.length - tl pre : Nat) : Int)), y5, y6],
      ⟨l.length, [], l, [], ts, [], none, none, rfl, rfl, tk, rfl, Nat.le_refl _, same_upd na, upd_same, .nil, rfl⟩, ?_⟩
    rintro m σ H1 ⟨pre, suf, done, rest, ps, y5, y6, rfl, el, tk1, ed, hdl, sm, ha, htl, rfl⟩
    have htp := tl_le pre
    have hps : ps.length = done.length := Paired.length htl
    have hcol : ((pre.length : Nat) : Int) - ((pre.length - tl pre : Nat) : Int) + 1 = colOf pre := by unfold colOf; omega
    refine ⟨_, rfl, _, rfl, _, rfl, hlen, _, _, rfl, rfl, _, rfl, ?_⟩
    rw [S_len]
    have hll : l.length = pre.length + suf.length := by rw [el, List.length_append]
    cases hs : suf with
    | nil =>
      subst hs
      rw [decide_eq_false (by simp at hll; omega)]
      refine iteF ?_
      have er := tk1.nil_inv
      · subst er
        refine ⟨_, rfl, .inl ⟨rfl, _, SqL.of ha⟩, _, rfl, _, rfl, _, rfl, _, _, rfl, rfl, _, _, rfl, rfl, four, fun p np => ?_⟩
        have nap : a ≠ p := ne_of_none ha np
        refine ⟨a, _, _, rfl, rfl, by rw [upd_ne nap]; exact ha, ?_, ?_⟩
        · rw [List.length_map, hps]
          exact Nat.lt_of_le_of_lt hdl (Nat.lt_of_le_of_lt (by omega : pre.length ≤ 1000000) (by decide))
        refine ⟨_, rfl, ?_⟩
        refine q _ a (ps ++ [p]) (fun b o e => ?_) na (by rw [upd_same, List.map_append]; rfl) ?_
        · rw [upd_ne (ne_of_none e na)]
          exact same_upd np _ _ (sm _ _ e)
        · rw [ed]
          refine pairedApp (htl.same fun b xs e => ?_) ?_
          · have nb : b ≠ a := ne_of e ha (by intro z; cases z)
            rw [upd_ne nb]
            exact same_upd np _ _ e
          · show (upd (upd H1 p _) a _) p = _
            rw [upd_ne nap.symm, upd_same, ← hcol]
    | cons c r =>
      subst hs
      rw [decide_eq_true (by simp at hll; omega)]
      refine iteT ?_
      refine ⟨fun σ' H' => ∃ m', m' < (c :: r).length ∧ ∃ (pre suf : List Nat) (done rest : List Tk) (ps : List Addr) (y5 y6 : Option V), m' = suf.length ∧ l = pre ++ suf ∧ Toks pre suf rest ∧ ts = done ++ rest ∧ done.length ≤ pre.length ∧ Same H H' ∧
        H' a = some (.lst (ps.map V.ref)) ∧ TL H' ps done ∧
        σ' = [some (.str (S l)), some (.ref a), some (.int (pre.length : Nat)), some (.int (rowOf pre)), some (.int ((pre.length - tl pre : Nat) : Int)), y5, y6], fun _ _ h => h, ?_⟩
      have hg : atI (S l).cps.toList ((pre.length : Nat) : Int) = some c := by
        rw [S_cps, el]
        refine atI_nat ?_
        rw [List.getElem?_append_right (Nat.le_refl _)]
        simp
      have isc : ∀ (z : String) (n : Nat), (z : Str) = ⟨#[n]⟩ → (decide (V.str ⟨#[c]⟩ = V.str (z : Str)) = decide (c = n)) := fun z n e => by
        rw [e]
        by_cases h : c = n
        · subst h; simp
        · rw [decide_eq_false h, decide_eq_false]
          intro q
          injection q with q
          injection q with q
          exact h (by simpa using q)
      refine ⟨_, rfl, _, rfl, _, _, c, rfl, rfl, hlen, hg, ?_⟩
      refine ⟨_, rfl, rfl, _, rfl, ?_⟩
      rw [isc "\n" 10 (by decide +kernel)]
      by_cases h10 : c = 10
      · subst h10
        refine iteT ?_
        refine ⟨_, rfl, _, _, rfl, rfl, _, rfl, _, _, rfl, rfl, _, rfl, ?_⟩
        have tk2 : Toks (pre ++ [10]) r rest := by
          generalize e : 10 :: r = u at tk1
          cases tk1 with
          | fin => cases e
          | nl h => cases e; exact h
          | sp h => cases e
          | cm c h1 h2 h3 => cases e
          | tk tw h =>
            exfalso
            cases tw with
            | word c' r' s' h1 h2 h3 => cases e; exact absurd h1 (by decide)
            | num c' r' s' h0 h1 h2 h3 => cases e; exact absurd h1 (by decide)
            | sign i c' r' s' h0 h1 h2 h3 h4 h5 h6 => cases e; exact h2 rfl
        refine ⟨r.length, by simp, pre ++ [10], r, done, rest, ps, some (.str ⟨#[10]⟩), y6, rfl, by rw [el]; simp, tk2, ed, by simp; omega, sm, ha, htl, ?_⟩
        rw [rowOf_nl, tl_nl, List.length_append]
        rfl
      · rw [decide_eq_false h10]
        refine iteF ?_
        refine ⟨_, rfl, rfl, _, rfl, ?_⟩
        rw [isc " " 32 (by decide +kernel)]
        by_cases h32 : c = 32
        · subst h32
          refine iteT ?_
          refine ⟨_, rfl, _, _, rfl, rfl, ?_⟩
          have tk2 : Toks (pre ++ [32]) r rest := by
            generalize e : 32 :: r = u at tk1
            cases tk1 with
            | fin => cases e
            | nl h => cases e
            | sp h => cases e; exact h
            | cm c h1 h2 h3 => cases e
            | tk tw h =>
              exfalso
              cases tw with
              | word c' r' s' h1 h2 h3 => cases e; exact absurd h1 (by decide)
              | num c' r' s' h0 h1 h2 h3 => cases e; exact absurd h1 (by decide)
              | sign i c' r' s' h0 h1 h2 h3 h4 h5 h6 => cases e; exact h3 rfl
          refine ⟨r.length, by simp, pre ++ [32], r, done, rest, ps, some (.str ⟨#[32]⟩), y6, rfl, by rw [el]; simp, tk2, ed, by simp; omega, sm, ha, htl, ?_⟩
          rw [rowOf_app (by decide), tl_app _ _ (by decide), List.length_append, beg_app pre _ _ rfl]
          rfl
        · rw [decide_eq_false h32]
          refine iteF ?_
          refine ⟨_, rfl, rfl, _, rfl, ?_⟩
          rw [isc "#" 35 (by decide +kernel)]
          by_cases h35 : c = 35
          · subst h35
            refine iteT ?_
            obtain ⟨cc, s2, e1, n10, hs2, tk2⟩ : ∃ cc s2, r = cc ++ s2 ∧ 10 ∉ cc ∧ (s2 = [] ∨ ∃ r, s2 = 10 :: r) ∧ Toks (pre ++ 35 :: cc) s2 rest := by
              generalize e : 35 :: r = u at tk1
              cases tk1 with
              | fin => cases e
              | nl h => cases e
              | sp h => cases e
              | cm c h1 h2 h3 => cases e; exact ⟨_, _, rfl, h1, h2, h3⟩
              | tk tw h =>
                exfalso
                cases tw with
                | word c' r' s' h1 h2 h3 => cases e; exact absurd h1 (by decide)
                | num c' r' s' h0 h1 h2 h3 => cases e; exact absurd h1 (by decide)
                | sign i c' r' s' h0 h1 h2 h3 h4 h5 h6 => cases e; exact h4 rfl
            have e3 : l = pre ++ (35 :: cc) ++ s2 := by rw [el, e1]; simp
            have n10' : 10 ∉ 35 :: cc := by simp; exact n10
            refine ⟨_, rfl, _, rfl, pre, 35 :: cc, s2, by rw [← e3]; rfl, by rw [← e3]; exact hl, n10', hs2, ?_⟩
            refine ⟨s2.length, by rw [e1]; simp; omega, pre ++ 35 :: cc, s2, done, rest, ps, some (.str ⟨#[35]⟩), y6, rfl, e3, tk2, ed, by simp; omega, sm, ha, htl, ?_⟩
            rw [rowOf_app n10', tl_app _ _ n10', List.length_append, beg_app pre _ _ rfl]
            rfl
          · rw [decide_eq_false h35]
            refine iteF ?_
            obtain ⟨k, wd, s2, rest2, e1, e2, tw, tk2⟩ : ∃ k wd s2 rest2, c :: r = wd ++ s2 ∧ rest = (k, S wd, rowOf pre, colOf pre) :: rest2 ∧ TokW k wd s2 ∧ Toks (pre ++ wd) s2 rest2 := by
              generalize e : c :: r = u at tk1
              cases tk1 with
              | fin => cases e
              | nl h => cases e; exact absurd rfl h10
              | sp h => cases e; exact absurd rfl h32
              | cm c h1 h2 h3 => cases e; exact absurd rfl h35
              | tk tw h => exact ⟨_, _, _, _, rfl, rfl, tw, h⟩
            have e3 : l = pre ++ wd ++ s2 := by rw [el, e1]; simp
            refine ⟨_, rfl, _, rfl, _, rfl, _, rfl, _, rfl, _, _, rfl, rfl, _, _, rfl, rfl, pre, wd, s2, k, rowOf pre, _, by rw [← e3]; rfl, by rw [← e3]; exact hl, tw, fun p np => ?_⟩
            have nap : a ≠ p := ne_of_none ha np
            refine ⟨_, rfl, .inl ⟨rfl, _, SqL.of (by rw [upd_ne nap]; exact ha)⟩, _, rfl, a, _, _, rfl, rfl, by rw [upd_ne nap]; exact ha, ?_, ?_⟩
            · rw [List.length_map, hps]
              exact Nat.lt_of_le_of_lt hdl (Nat.lt_of_le_of_lt (by omega : pre.length ≤ 1000000) (by decide))
            have nb : p ≠ a := nap.symm
            refine ⟨_, rfl, _, rfl, p, _, 1, _, rfl, rfl, SqT.of (by rw [upd_ne nb, upd_same]), rfl, _, rfl, ?_, _, _, rfl, rfl, ?_⟩
            · rw [S_len]; exact Nat.le_trans (by rw [e3] at hl; simp at hl; omega) (show 1000000 ≤ sizeLine by decide)
            have hw1 : 1 ≤ wd.length := by
              cases wd with
              | nil => exact absurd rfl tw.ne
              | cons _ _ => simp
            refine ⟨s2.length, by rw [e1]; simp; omega, pre ++ wd, s2, done ++ [(k, S wd, rowOf pre, colOf pre)], rest2, ps ++ [p], some (.str ⟨#[c]⟩), some (.ref p), rfl, e3, tk2, by rw [ed, e2]; simp, by simp; omega, fun b o e => ?_, by rw [upd_same, List.map_append]; rfl, ?_, ?_⟩
            · rw [upd_ne (ne_of_none e na)]
              exact same_upd np _ _ (sm _ _ e)
            · refine pairedApp (htl.same fun b xs e => ?_) ?_
              · have nb : b ≠ a := ne_of e ha (by intro z; cases z)
                rw [upd_ne nb]
                exact same_upd np _ _ e
              · show (upd (upd H1 p _) a _) p = _
                rw [upd_ne nb, upd_same, ← hcol]
                rfl
            · rw [rowOf_app tw.no10, tl_app _ _ tw.no10]
              rw [List.length_append, beg_app pre _ _ rfl, S_len]
              rfl
end
end Ow
namespace Ow
open PySem PySem.Spec PyProof.Rows L2
section
variable {P : Program} {w : World} {K : PySem.W.Frag} {mg : Str → Option Value} {base : Heap}
/-! ### the law's draws -/
abbrev s__law_mix : Stmt := topS 20
theorem sc__law_mix : FnScope ["cell", "k", "low"] ["cell", "k"] (defScope s__law_mix) := ⟨rfl, rfl, rfl, by decide +kernel, rfl, by decide +kernel, by decide +kernel⟩
def sp__law_mix : Sp := fun vs H Q _ => ∃ (c k : Int), vs = [.int c, .int k] ∧ ∀ n : Int, 0 ≤ n → n < 1000 → Q (.int n) H
theorem ok__law_mix {f : Addr} {fd : FuncData} (F : Fun K "_law_mix" "_law_mix" s__law_mix f fd) (z_int : mg "int" = none) :
    FnOk P w K mg base CX0 1 f fd ["cell", "k"] sp__law_mix := by
  refine F.ok sc__law_mix (fun vs H Q E h => ?_) (fun cdv A outer s H vs Q E hr h => ?_)
  · obtain ⟨_, _, rfl, _⟩ := h; rfl
  · obtain ⟨c, k, rfl, q⟩ := h
    refine ⟨_, (pss_cons (ps_set (i := 2) sc__law_mix.nd rfl (.inl rfl) (pe_op op_mod (pe_callTy call_int1 (by rfl) z_int (by decide +kernel) (pa_cons (pe_op op_add (pe_op op_add (pe_op op_mul (pv 0) pe_int) (pe_op op_mul (pv 1) pe_int)) pe_int) pa_nil)) pe_int))
      (pss_one (ps_ret (pe_op op_mod (pe_op op_mod (pe_callTy call_int1 (by rfl) z_int (by decide +kernel) (pa_cons (pe_op op_add (pe_op op_add (pe_op op_add (pe_op op_mul (pv 2) (pv 2)) (pe_op op_mul (pv 0) pe_int)) (pe_op op_mul (pv 1) pe_int)) pe_int) pa_nil)) pe_int) pe_int)))), ?_⟩
    refine ⟨_, rfl, _, _, rfl, rfl, .inr ⟨by decide, by decide⟩, _, rfl, _, _, rfl, rfl, .inr ⟨by decide, by decide⟩, _, _, rfl, rfl, _, _, rfl, rfl, .inl ⟨_, rfl, _, _, rfl, rfl, (by show (0 : Int) < 2147483647; decide), ?_⟩⟩
    generalize hlow : (c * 48271 + k * 69621 + 11) % 2147483647 = low
    have h1 : 0 ≤ low := by omega
    have h2 : low < 2147483647 := by omega
    refine ⟨_, rfl, _, rfl, _, _, rfl, rfl, .inl ⟨by omega, by omega⟩, _, rfl, _, _, rfl, rfl, .inr ⟨by decide, by decide⟩, _, _, rfl, rfl, _, rfl, _, _, rfl, rfl, .inr ⟨by decide, by decide⟩, _, _, rfl, rfl, _, _, rfl, rfl,
      .inl ⟨_, rfl, _, _, rfl, rfl, (by show (0 : Int) < 1000003; decide), _, _, rfl, rfl, (by show (0 : Int) < 1000; decide), ?_⟩⟩
    exact q _ (by omega) (by omega)
/-- the draws: their dict, its row -/
def dkv (r : Addr) (at' sd : Int) : List (Key × V) := [(.inr ("row" : Str), .ref r), (.inr ("at" : Str), .int at'), (.inr ("seed" : Str), .int sd)]
structure Draws (H : Hp) (d r : Addr) (at' sd : Int) (row : List Int) : Prop where
  d : H d = some (.dK (dkv r at' sd))
  r : H r = some (.lst (row.map V.int))
  at0 : 0 ≤ at'
  small : row.length ≤ 1000
theorem Draws.ne {H : Hp} {d r : Addr} {at' sd : Int} {row : List Int} (D : Draws H d r at' sd row) : d ≠ r := ne_of D.d D.r (by intro z; cases z)
theorem nk_row_at : ¬ (Sum.inr ("row" : Str) : Key) = Sum.inr ("at" : Str) := by decide +kernel
theorem nk_row_seed : ¬ (Sum.inr ("row" : Str) : Key) = Sum.inr ("seed" : Str) := by decide +kernel
theorem nk_at_seed : ¬ (Sum.inr ("at" : Str) : Key) = Sum.inr ("seed" : Str) := by decide +kernel
theorem nk_seed_at : ¬ (Sum.inr ("seed" : Str) : Key) = Sum.inr ("at" : Str) := by decide +kernel
theorem dkv_row (r : Addr) (a s : Int) : valV (dkv r a s) (.inr ("row" : Str)) = some (.ref r) := by
  unfold dkv; rw [valV_pos rfl]
theorem dkv_at (r : Addr) (a s : Int) : valV (dkv r a s) (.inr ("at" : Str)) = some (.int a) := by
  unfold dkv; rw [valV_neg nk_row_at, valV_pos rfl]
theorem dkv_seed (r : Addr) (a s : Int) : valV (dkv r a s) (.inr ("seed" : Str)) = some (.int s) := by
  unfold dkv; rw [valV_neg nk_row_seed, valV_neg nk_at_seed, valV_pos rfl]
theorem dkv_put (r : Addr) (a s b : Int) : putK (dkv r a s) (.inr ("at" : Str)) (.int b) = dkv r b s := by
  unfold putK dkv
  have h1 : ¬ ("row" : Str) = ("at" : Str) := by decide +kernel
  have h2 : ¬ ("seed" : Str) = ("at" : Str) := by decide +kernel
  simp [h1, h2]
/-- behind a pick: the same draws, one further -/
theorem Draws.next {H : Hp} {d r : Addr} {at' sd : Int} {row : List Int} (D : Draws H d r at' sd row) : Draws (upd H d (.dK (dkv r (at' + 1) sd))) d r (at' + 1) sd row :=
  ⟨upd_same, by rw [upd_ne D.ne.symm]; exact D.r, by have := D.at0; omega, D.small⟩
abbrev s__law_pick : Stmt := topS 22
theorem sc__law_pick : FnScope ["draws", "many", "at", "number"] ["draws", "many"] (defScope s__law_pick) := ⟨rfl, rfl, rfl, by decide +kernel, rfl, by decide +kernel, by decide +kernel⟩
def sp__law_pick : Sp := fun vs H Q _ => ∃ (d r : Addr) (at' sd : Int) (row : List Int) (m : Nat), vs = [.ref d, .int m] ∧ Draws H d r at' sd row ∧ 0 < m ∧
  ∀ n : Nat, n < m → Q (.int n) (upd H d (.dK (dkv r (at' + 1) sd)))
theorem ok__law_pick {f : Addr} {fd : FuncData} (F : Fun K "_law_pick" "_law_pick" s__law_pick f fd) (hM : Has P w K mg base 1 "_law_mix" ["cell", "k"] sp__law_mix) (z_len : mg "len" = none) (z_int : mg "int" = none) :
    FnOk P w K mg base CX0 2 f fd ["draws", "many"] sp__law_pick := by
  obtain ⟨f1, fd1, G__law_mix, k__law_mix, b__law_mix, g__law_mix⟩ := hM
  refine F.ok sc__law_pick (fun vs H Q E h => ?_) (fun cdv A outer s H vs Q E hr h => ?_)
  · obtain ⟨_, _, _, _, _, _, rfl, _⟩ := h; rfl
  · obtain ⟨d, r, at', sd, row, m, rfl, D, hm, q⟩ := h
    have hu := hu_of hr
    have D2 := D.next
    refine ⟨_, (pss_cons (ps_set (i := 2) sc__law_pick.nd rfl (.inl rfl) (pe_dget hu (pv 0) pe_str (fun _ _ => rfl)))
      (pss_cons (ps_dput hu (pv 0) pe_str (pe_op op_add (pv 2) pe_int) rfl)
      (pss_cons (ps_set (i := 3) sc__law_pick.nd rfl (.inl rfl) (pe_call G__law_mix (hr.mono (by decide)) (by rfl) g__law_mix k__law_mix b__law_mix .nil pass0 (pa_cons (pe_dget hu (pv 0) pe_str (fun _ _ => rfl)) (pa_cons (pv 2) pa_nil))))
      (pss_cons (ps_if (pt_cmpR op_lt (pv 2) (pe_callB call_len_seq (by rfl) z_len PySem.boot_len (pa_cons (pe_dget hu (pv 0) pe_str (fun _ _ => rfl)) pa_nil)) (nomark _))
        (pss_one (ps_set (i := 3) sc__law_pick.nd rfl (.inl rfl) (pe_ix ix_list (pe_dget hu (pv 0) pe_str (fun _ _ => rfl)) (pv 2) (fun _ _ => rfl))))
        pss_nil)
      (pss_one (ps_ret (pe_op op_mod (pe_callTy call_int1 (by rfl) z_int (by decide +kernel) (pa_cons (pv 3) pa_nil)) (pv 1)))))))), ?_⟩
    have g1 : ∀ {H' : Hp} {a : Int}, H' d = some (.dK (dkv r a sd)) → DGet H' d (.str "at") (some (.int a)) := fun e => by
      have := DGet.k (k := Sum.inr ("at" : Str)) e; rwa [dkv_at] at this
    have g2 : ∀ {H' : Hp} {a : Int}, H' d = some (.dK (dkv r a sd)) → DGet H' d (.str "row") (some (.ref r)) := fun e => by
      have := DGet.k (k := Sum.inr ("row" : Str)) e; rwa [dkv_row] at this
    have g3 : ∀ {H' : Hp} {a : Int}, H' d = some (.dK (dkv r a sd)) → DGet H' d (.str "seed") (some (.int sd)) := fun e => by
      have := DGet.k (k := Sum.inr ("seed" : Str)) e; rwa [dkv_seed] at this
    have fin : ∀ (n : Int), ∃ v : V, ([some (.ref d), some (.int m), some (.int at'), some (.int n)] : L2.St)[3]? = some (some v) ∧ ((∃ i, [v] = [V.int i] ∧ ∃ v2 : V, ([some (.ref d), some (.int m), some (.int at'), some (.int n)] : L2.St)[1]? = some (some v2) ∧ ∃ a b : Int, V.int i = .int a ∧ v2 = .int b ∧ 0 < b ∧ Q (.int (a % b)) (upd H d (.dK (dkv r (at' + 1) sd)))) ∨ ∃ k, [v] = [V.bl k] ∧ ∃ v2 : V, ([some (.ref d), some (.int m), some (.int at'), some (.int n)] : L2.St)[1]? = some (some v2) ∧ ∃ a b : Int, V.int (if k then 1 else 0) = .int a ∧ v2 = .int b ∧ 0 < b ∧ Q (.int (a % b)) (upd H d (.dK (dkv r (at' + 1) sd)))) := fun n => by
      refine ⟨_, rfl, .inl ⟨n, rfl, _, rfl, n, m, rfl, rfl, by omega, ?_⟩⟩
      have h1 : 0 ≤ n % (m : Int) := Int.emod_nonneg _ (by omega)
      have h2 : n % (m : Int) < m := Int.emod_lt_of_pos _ (by omega)
      have := q (n % (m : Int)).toNat (by omega)
      rwa [Int.toNat_of_nonneg h1] at this
    refine ⟨_, rfl, d, _, rfl, g1 D.d, ?_⟩
    refine ⟨_, rfl, _, _, rfl, rfl, _, rfl, d, _, rfl, DPut.k (k := Sum.inr ("at" : Str)) D.d (by show 3 < sizeLine; decide), ?_⟩
    rw [dkv_put]
    refine ⟨_, rfl, d, _, rfl, g3 D2.d, _, rfl, sd, at', rfl, fun n0 hn0 hn1 => ?_⟩
    refine ⟨_, rfl, _, rfl, d, _, rfl, g2 D2.d, r, _, rfl, .inl (SqL.of D2.r), _, _, rfl, rfl, _, rfl, ?_⟩
    rw [List.length_map]
    by_cases hlt : at' < row.length
    · rw [decide_eq_true hlt]
      refine iteT ?_
      have h0 := D.at0
      have hi : at'.toNat < row.length := by omega
      refine ⟨_, rfl, d, _, rfl, g2 D2.d, _, rfl, r, _, at', .int row[at'.toNat], rfl, rfl, SqL.of D2.r, ?_, ?_⟩
      · have := atI_nat (xs := row.map V.int) (j := at'.toNat) (v := .int row[at'.toNat]) (by rw [List.getElem?_map, List.getElem?_eq_getElem hi]; rfl)
        rwa [Int.toNat_of_nonneg h0] at this
      exact fin _
    · rw [decide_eq_false hlt]
      refine iteF ?_
      exact fin _
end
end Ow
namespace Ow
open PySem PySem.Spec PyProof.Rows L2
section
variable {P : Program} {w : World} {K : PySem.W.Frag} {mg : Str → Option Value} {base : Heap}
abbrev s__law_stream : Stmt := topS 21
theorem sc__law_stream : FnScope ["script", "most", "row", "k", "rest", "j"] ["script", "most"] (defScope s__law_stream) := ⟨rfl, rfl, rfl, by decide +kernel, rfl, by decide +kernel, by decide +kernel⟩
def sp__law_stream (K : PySem.W.Frag) : Sp := fun vs H Q _ => ∃ (a : Addr) (ns : List Int) (m : Nat), vs = [.ref a, .int m] ∧ SqL K H a (ns.map V.int) ∧ ns.length ≤ 63 ∧ m ≤ 1000 ∧
  ∀ d r row H', row.length ≤ m → H d = none → H r = none → Same H H' → Draws H' d r 0 (row.length : Nat) row → Q (.ref d) H'
theorem ok__law_stream {f : Addr} {fd : FuncData} (F : Fun K "_law_stream" "_law_stream" s__law_stream f fd) (hM : Has P w K mg base 1 "_law_mix" ["cell", "k"] sp__law_mix) (z_len : mg "len" = none) (z_int : mg "int" = none) (z_min : mg "min" = none) (z_range : mg "range" = none) :
    FnOk P w K mg base CX0 2 f fd ["script", "most"] (sp__law_stream K) := by
  obtain ⟨f1, fd1, G__law_mix, k__law_mix, b__law_mix, g__law_mix⟩ := hM
  refine F.ok sc__law_stream (fun vs H Q E h => ?_) (fun cdv A outer s H vs Q E hr h => ?_)
  · obtain ⟨_, _, _, rfl, _⟩ := h; rfl
  · obtain ⟨a, ns, m, rfl, hS, hns, hm, q⟩ := h
    refine ⟨_, (pss_cons (ps_set (i := 2) sc__law_stream.nd rfl (.inl rfl) (pe_lst pa_nil))
      (pss_cons (ps_for PassesOwn.never rfl (pi_range1 (by rfl) z_range (pa_cons (pe_callB (call_min2 rfl) (by rfl) z_min (by decide +kernel) (pa_cons (pe_callB call_len_seq (by rfl) z_len PySem.boot_len (pa_cons (pv 0) pa_nil)) (pa_cons pe_int pa_nil))) pa_nil)) (pg_name (i := 3) sc__law_stream.nd rfl (.inl rfl))
        (pss_cons (ps_set (i := 4) sc__law_stream.nd rfl (.inl rfl) (pe_ix ix_list (pv 0) (pv 3) (fun _ _ => rfl)))
        (pss_one (ps_if (pt_cmpR op_ge (pv 4) (pe_op op_pow pe_int pe_int) (nomark _))
          (pss_one (ps_for PassesOwn.never rfl (pi_range1 (by rfl) z_range (pa_cons pe_int pa_nil)) (pg_name (i := 5) sc__law_stream.nd rfl (.inl rfl))
            (pss_one (ps_if (PW.pt (pw_and (pt_cmpR op_gt (pv 4) pe_int (nomark _)) (pw_and1 (pt_cmpR op_lt (pe_callB call_len_seq (by rfl) z_len PySem.boot_len (pa_cons (pv 2) pa_nil)) (pv 1) (nomark _)))))
              (pss_cons (ps_expr (pe_bm PySem.F.plainAttrs_list PySem.F.slot_list_append PySem.F.type_list_append mt_append (pv 2) (pa_cons (pe_op op_mod (pe_callTy call_int1 (by rfl) z_int (by decide +kernel) (pa_cons (pv 4) pa_nil)) pe_int) pa_nil)))
              (pss_one (ps_set (i := 4) sc__law_stream.nd rfl (.inl rfl) (pe_op op_fdiv (pv 4) pe_int))))
              pss_nil))))
          (pss_one (ps_for PassesOwn.never rfl (pi_range1 (by rfl) z_range (pa_cons pe_int pa_nil)) (pg_name (i := 5) sc__law_stream.nd rfl (.inl rfl))
            (pss_one (ps_if (pt_cmpR op_lt (pe_callB call_len_seq (by rfl) z_len PySem.boot_len (pa_cons (pv 2) pa_nil)) (pv 1) (nomark _))
              (pss_one (ps_expr (pe_bm PySem.F.plainAttrs_list PySem.F.slot_list_append PySem.F.type_list_append mt_append (pv 2) (pa_cons (pe_call G__law_mix (hr.mono (by decide)) (by rfl) g__law_mix k__law_mix b__law_mix .nil pass0 (pa_cons (pv 4) (pa_cons (pe_op op_add (pe_op op_mul pe_int (pv 5)) (pv 3)) pa_nil))) pa_nil))))
              pss_nil))))))))
      (pss_one (ps_ret (pe_disp (pps_cons pe_str (pv 2) (pps_cons pe_str pe_int (pps_cons pe_str (pe_callB call_len_seq (by rfl) z_len PySem.boot_len (pa_cons (pv 2) pa_nil)) pps_nil))) (by rfl) (by rfl) (fun z => by cases z) (by decide)))))), ?_⟩
    refine ⟨Nat.zero_le _, fun r nr => ?_⟩
    have s0 : Same H (upd H r (.lst [])) := same_upd nr
    refine ⟨_, rfl, _, _, rfl, .inl (s0.seq hS), _, _, rfl, ?_⟩
    rw [List.length_map]
    have hmin : (if (63 : Int) < (ns.length : Int) then (63 : Int) else (ns.length : Int)) = (ns.length : Int) := by rw [if_neg (by omega)]
    rw [hmin]
    -- what stands at each turn: the row so far
    let Ok : Hp → Prop := fun H1 => ∃ row : List Int, H1 r = some (.lst (row.map V.int)) ∧ row.length ≤ m ∧ Same H H1
    have grow : ∀ {H1 : Hp} {row : List Int} {x : Int}, H1 r = some (.lst (row.map V.int)) → row.length < m → Same H H1 → Ok (upd H1 r (.lst (row.map V.int ++ [.int x]))) := fun {H1 row x} h1 h2 h3 =>
      ⟨row ++ [x], by rw [upd_same, List.map_append]; rfl, by simp; omega, fun b o e => by rw [upd_ne (ne_of_none e nr)]; exact h3 b o e⟩
    refine ⟨(ns.length : Int), rfl, by omega, by omega, for_range (n := ns.length) (fun i σ H1 => ∃ y3 y4 y5, σ = [some (.ref a), some (.int m), some (.ref r), y3, y4, y5] ∧ Ok H1) ⟨none, none, none, rfl, [], upd_same, Nat.zero_le _, s0⟩ ?_ ?_⟩
    · rintro i σ H1 hi ⟨y3, y4, y5, rfl, row, h1, h2, h3⟩
      have hA : SqL K H1 a (ns.map V.int) := h3.seq hS
      refine ⟨_, rfl, _, rfl, a, _, _, .int (ns[i]), rfl, rfl, hA, ?_, ?_⟩
      · rw [Int.zero_add]
        exact atI_nat (by rw [List.getElem?_map, List.getElem?_eq_getElem hi]; rfl)
      refine ⟨_, rfl, _, _, rfl, rfl, ⟨by decide, by decide, by decide⟩, _, _, rfl, rfl, _, rfl, ite2 (fun hb => ?_) (fun hb => ?_)⟩
      · refine ⟨60, rfl, by decide, by decide, for_range (n := 60) (fun j σ H1 => ∃ y4 y5, σ = [some (.ref a), some (.int m), some (.ref r), some (.int (0 + (i : Int))), some (.int y4), y5] ∧ Ok H1) ⟨_, y5, rfl, row, h1, h2, h3⟩ ?_ ?_⟩
        · rintro j σ H2 hj ⟨y4, y5, rfl, row, g1, g2, g3⟩
          refine ⟨_, rfl, _, _, rfl, rfl, _, rfl, ite2 (fun c1 => ?_) (fun c1 => iteF ⟨y4, _, rfl, row, g1, g2, g3⟩)⟩
          refine ⟨_, rfl, _, _, rfl, .inl (SqL.of g1), _, rfl, _, _, rfl, rfl, _, rfl, ite2 (fun c2 => ?_) (fun c2 => ⟨y4, _, rfl, row, g1, g2, g3⟩)⟩
          have c2' : row.length < m := by
            have := of_decide_eq_true c2
            rw [List.length_map] at this
            omega
          refine ⟨_, rfl, .inl ⟨rfl, _, SqL.of g1⟩, _, rfl, .inl ⟨_, rfl, _, _, rfl, rfl, (by show (0 : Int) < 1000; decide), r, _, _, rfl, rfl, g1, ?_, ?_⟩⟩
          · rw [List.length_map]; exact small1000 (by omega)
          · exact ⟨_, rfl, _, _, rfl, rfl, ⟨by decide, by decide⟩, _, _, rfl, grow g1 c2' g3⟩
        · rintro σ H2 ⟨y4, y5, rfl, hok⟩
          exact ⟨_, _, _, rfl, hok⟩
      · refine ⟨3, rfl, by decide, by decide, for_range (n := 3) (fun j σ H1 => ∃ y5, σ = [some (.ref a), some (.int m), some (.ref r), some (.int (0 + (i : Int))), some (.int ns[i]), y5] ∧ Ok H1) ⟨y5, rfl, row, h1, h2, h3⟩ ?_ ?_⟩
        · rintro j σ H2 hj ⟨y5, rfl, row, g1, g2, g3⟩
          refine ⟨_, rfl, _, _, rfl, .inl (SqL.of g1), _, rfl, _, _, rfl, rfl, _, rfl, ite2 (fun c2 => ?_) (fun c2 => ⟨_, rfl, row, g1, g2, g3⟩)⟩
          have c2' : row.length < m := by
            have := of_decide_eq_true c2
            rw [List.length_map] at this
            omega
          refine ⟨_, rfl, .inl ⟨rfl, _, SqL.of g1⟩, _, rfl, _, rfl, _, _, rfl, rfl, .inl ⟨by decide, by decide⟩, _, rfl, _, _, rfl, rfl, _, _, rfl, fun n hn0 hn1 => ?_⟩
          refine ⟨r, _, _, rfl, rfl, g1, ?_, ?_⟩
          · rw [List.length_map]; exact small1000 (by omega)
          · exact ⟨_, rfl, grow g1 c2' g3⟩
        · rintro σ H2 ⟨y5, rfl, hok⟩
          exact ⟨_, _, _, rfl, hok⟩
    · rintro σ H1 ⟨y3, y4, y5, rfl, row, h1, h2, h3⟩
      refine fun d nd => ?_
      have ndr : d ≠ r := fun e => by rw [e, h1] at nd; cases nd
      have h1' : ∀ o, (upd H1 d o) r = some (.lst (row.map V.int)) := fun o => by rw [upd_ne ndr.symm]; exact h1
      refine ⟨_, rfl, _, rfl, _, _, rfl, .inl (SqL.of (h1' _)), upd_same, dkv r 0 (row.map V.int).length, rfl, (by show 3 ≤ 15; decide), ?_⟩
      have e1 : mergeK [] (dkv r 0 (row.map V.int).length) = dkv r 0 row.length := by
        rw [List.length_map]
        show putK (putK (putK [] (Sum.inr ("row" : Str) : Key) (V.ref r)) (Sum.inr ("at" : Str)) (V.int 0)) (Sum.inr ("seed" : Str)) (V.int (row.length : Nat)) = _
        have p1 : putK ([] : List (Key × V)) (Sum.inr ("row" : Str)) (V.ref r) = [(Sum.inr ("row" : Str), V.ref r)] := rfl
        rw [p1, putK_new (kvs := [(Sum.inr ("row" : Str), V.ref r)]) _ (by rw [valV_neg nk_row_at, valV_nil])]
        rw [putK_new (kvs := [(Sum.inr ("row" : Str), V.ref r)] ++ [(Sum.inr ("at" : Str), V.int 0)]) _ (by rw [List.singleton_append, valV_neg nk_row_seed, valV_neg nk_at_seed, valV_nil])]
        rfl
      rw [e1]
      refine q d r row _ h2 (h3.free nd) nr (fun b o e => ?_) ⟨upd_same, by rw [upd_ne ndr.symm, upd_ne ndr.symm]; exact h1, by decide, by omega⟩
      have nb : b ≠ d := ne_of_none (h3 _ _ e) nd
      rw [upd_ne nb, upd_ne nb]
      exact h3 _ _ e
end
end Ow
namespace Ow
open PySem PySem.Spec PyProof.Rows L2
section
variable {P : Program} {w : World} {K : PySem.W.Frag} {mg : Str → Option Value} {base : Heap}
/-! ### the law's words -/
def kwA : List Str := ["record", "variant", "fn", "let", "open", "as", "match", "ref", "mut", "if", "else", "while", "show", "push", "take"]
def kwB : List Str := ["par", "return", "true", "false", "box", "unbox", "vec", "len", "int", "bool", "from"]
theorem kw_eq : kwA ++ kwB = kws := rfl
def nmL : List Str := ["a", "X1", "go_", "a_b", "refx", "lets", "integer", "ifs", "z9", "Main", "fn1", "boo", "True"]
def nuL : List Str := ["0", "7", "10", "4294967295", "999999999", "12345", "90"]
def sgA : List Str := ["=", "==", "-", "->", "<", ".", "!"]
def sgB : List Str := ["{", "}", "(", ")", "[", "]", ",", ";", "+", "*", ":", "."]
abbrev s__law_keywords : Stmt := topS 23
theorem sc__law_keywords : FnScope ["words"] [] (defScope s__law_keywords) := ⟨rfl, rfl, rfl, by decide +kernel, rfl, by decide +kernel, by decide +kernel⟩
def sp__law_keywords : Sp := fun vs H Q _ => vs = [] ∧ ∀ p H', Same H H' → H p = none → H' p = some (.lst (kws.map V.str)) → Q (.ref p) H'
theorem ok__law_keywords {f : Addr} {fd : FuncData} (F : Fun K "_law_keywords" "_law_keywords" s__law_keywords f fd) : FnOk P w K mg base CX0 1 f fd [] sp__law_keywords := by
  refine F.ok sc__law_keywords (fun vs H Q E h => ?_) (fun cdv A outer s H vs Q E hr h => ?_)
  · obtain ⟨rfl, _⟩ := h; rfl
  · obtain ⟨rfl, q⟩ := h
    refine ⟨_, (pss_cons (ps_set (i := 0) sc__law_keywords.nd rfl (.inl rfl) (pe_lst (pa_strs (xs := kwA) (by rfl))))
      (pss_one (ps_ret (pe_op op_cat (pv 0) (pe_lst (pa_strs (xs := kwB) (by rfl))))))), ?_⟩
    refine ⟨by decide, fun p np => ?_⟩
    refine ⟨_, rfl, by decide, fun p2 np2 => ?_⟩
    have n12 : p ≠ p2 := fun e => by rw [← e, upd_same] at np2; cases np2
    refine ⟨p, p2, _, _, rfl, rfl, by rw [upd_ne n12, upd_same], upd_same, by decide, fun p3 np3 => ?_⟩
    have e0 : H p3 = none := by
      by_cases e : p3 = p2
      · subst e; rw [upd_same] at np3; cases np3
      · rw [upd_ne e] at np3
        by_cases e' : p3 = p
        · subst e'; rw [upd_same] at np3; cases np3
        · rwa [upd_ne e'] at np3
    refine q p3 _ (fun b o e => ?_) e0 upd_same
    exact same_upd np3 _ _ (same_upd np2 _ _ (same_upd np _ _ e))
abbrev s__law_alone : Stmt := topS 25
theorem sc__law_alone : FnScope ["text"] ["text"] (defScope s__law_alone) := ⟨rfl, rfl, rfl, by decide +kernel, rfl, by decide +kernel, by decide +kernel⟩
def sp__law_alone : Sp := fun vs H Q _ => ∃ x : Str, vs = [.str x] ∧ ∀ H', Same H H' → Q (.bl (decide (x ∈ sgB))) H'
theorem ok__law_alone {f : Addr} {fd : FuncData} (F : Fun K "_law_alone" "_law_alone" s__law_alone f fd) : FnOk P w K mg base CX0 1 f fd ["text"] sp__law_alone := by
  refine F.ok sc__law_alone (fun vs H Q E h => ?_) (fun cdv A outer s H vs Q E hr h => ?_)
  · obtain ⟨_, rfl, _⟩ := h; rfl
  · obtain ⟨x, rfl, q⟩ := h
    refine ⟨_, (pss_one (ps_ret (pe_cmpR op_in_seq (pv 0) (pe_tup (pa_strs (xs := sgB) (by rfl))) rfl))), ?_⟩
    refine ⟨_, rfl, by decide, fun p np => ?_⟩
    refine ⟨p, _, rfl, .inr (SqT.of upd_same), rfl, flat_strs _, ?_⟩
    have := q _ (same_upd (o := .tup (sgB.map V.str)) np)
    rw [← inV_str] at this
    exact this
/-- a pick out of a list of texts -/
theorem pick_str {xs : List Str} {n : Nat} (h : n < xs.length) : ∃ x, x ∈ xs ∧ atI (xs.map V.str) (n : Int) = some (.str x) :=
  ⟨xs[n], List.getElem_mem h, atI_nat (by rw [List.getElem?_map, List.getElem?_eq_getElem h]; rfl)⟩
/-- draws stay where nothing of theirs is written -/
theorem Draws.same {H H' : Hp} {d r : Addr} {at' sd : Int} {row : List Int} (D : Draws H d r at' sd row) (s : Same H H') : Draws H' d r at' sd row := ⟨s _ _ D.d, s _ _ D.r, D.at0, D.small⟩
/-- behind some picks -/
structure Later (H H' : Hp) (d r : Addr) (sd : Int) (row : List Int) : Prop where
  dr : ∃ at', Draws H' d r at' sd row
  st : ∀ b o, b ≠ d → H b = some o → H' b = some o
theorem Later.upd {H H' : Hp} {d r p : Addr} {sd : Int} {row : List Int} {o : HO} (l : Later H H' d r sd row) (np : H' p = none) : Later H (upd H' p o) d r sd row :=
  let ⟨a, D⟩ := l.dr
  ⟨⟨a, D.same (same_upd np)⟩, fun b o' hb e => same_upd np _ _ (l.st b o' hb e)⟩
theorem Later.pick {H H' : Hp} {d r : Addr} {sd a : Int} {row : List Int} (D : Draws H' d r a sd row) (l : ∀ b o, b ≠ d → H b = some o → H' b = some o) : Later H (L2.upd H' d (.dK (dkv r (a + 1) sd))) d r sd row :=
  ⟨⟨_, D.next⟩, fun b o hb e => by rw [upd_ne hb]; exact l b o hb e⟩
theorem Later.free {H H' : Hp} {d r p : Addr} {sd a : Int} {row : List Int} (D : Draws H d r a sd row) (l : Later H H' d r sd row) (np : H' p = none) : H p = none := by
  cases e : H p with
  | none => rfl
  | some o =>
    by_cases hb : p = d
    · subst hb
      obtain ⟨_, D'⟩ := l.dr
      rw [D'.d] at np; cases np
    · rw [l.st p o hb e] at np; cases np
def tagged (k : Str) (xs : List Str) : List (Str × Str) := xs.map fun x => (k, x)
theorem mem_tagged {k x : Str} {xs : List Str} (h : x ∈ xs) : (k, x) ∈ tagged k xs := List.mem_map.mpr ⟨x, h, rfl⟩
def wordsOf : List (Str × Str) := tagged "name" nmL ++ (tagged "number" nuL ++ (tagged "keyword" kws ++ (tagged "sign" sgA ++ tagged "sign" sgB)))
abbrev s__law_word : Stmt := topS 24
theorem sc__law_word : FnScope ["draws", "pick", "names"] ["draws"] (defScope s__law_word) := ⟨rfl, rfl, rfl, by decide +kernel, rfl, by decide +kernel, by decide +kernel⟩
def sp__law_word : Sp := fun vs H Q _ => ∃ (d r : Addr) (at' sd : Int) (row : List Int), vs = [.ref d] ∧ Draws H d r at' sd row ∧
  ∀ p k x H', (k, x) ∈ wordsOf → Later H H' d r sd row → H p = none → H' p = some (.tup [.str k, .str x]) → Q (.ref p) H'
theorem ok__law_word {f : Addr} {fd : FuncData} (F : Fun K "_law_word" "_law_word" s__law_word f fd) (hP : Has P w K mg base 2 "_law_pick" ["draws", "many"] sp__law_pick) (hK : Has P w K mg base 1 "_law_keywords" [] sp__law_keywords) :
    FnOk P w K mg base CX0 3 f fd ["draws"] sp__law_word := by
  obtain ⟨f1, fd1, G__law_pick, k__law_pick, b__law_pick, g__law_pick⟩ := hP
  obtain ⟨f2, fd2, G__law_keywords, k__law_keywords, b__law_keywords, g__law_keywords⟩ := hK
  refine F.ok sc__law_word (fun vs H Q E h => ?_) (fun cdv A outer s H vs Q E hr h => ?_)
  · obtain ⟨_, _, _, _, _, rfl, _⟩ := h; rfl
  · obtain ⟨d, r, a, sd, row, rfl, D, q⟩ := h
    refine ⟨_, (pss_cons (ps_set (i := 1) sc__law_word.nd rfl (.inl rfl) (pe_call G__law_pick (hr.mono (by decide)) (by rfl) g__law_pick k__law_pick b__law_pick .nil pass0 (pa_cons (pv 0) (pa_cons pe_int pa_nil))))
      (pss_cons (ps_if (pt_cmpR op_lt (pv 1) pe_int (nomark _))
        (pss_cons (ps_set (i := 2) sc__law_word.nd rfl (.inl rfl) (pe_lst (pa_strs (xs := nmL) (by rfl))))
        (pss_one (ps_ret (pe_tup (pa_cons pe_str (pa_cons (pe_ix ix_list (pv 2) (pe_call G__law_pick (hr.mono (by decide)) (by rfl) g__law_pick k__law_pick b__law_pick .nil pass0 (pa_cons (pv 0) (pa_cons pe_int pa_nil))) (fun _ _ => rfl)) pa_nil))))))
        pss_nil)
      (pss_cons (ps_if (pt_cmpR op_eq (pv 1) pe_int (nomark _))
        (pss_one (ps_ret (pe_tup (pa_cons pe_str (pa_cons (pe_ix ix_list (pe_lst (pa_strs (xs := nuL) (by rfl))) (pe_call G__law_pick (hr.mono (by decide)) (by rfl) g__law_pick k__law_pick b__law_pick .nil pass0 (pa_cons (pv 0) (pa_cons pe_int pa_nil))) (fun _ _ => rfl)) pa_nil)))))
        pss_nil)
      (pss_cons (ps_if (pt_cmpR op_lt (pv 1) pe_int (nomark _))
        (pss_one (ps_ret (pe_tup (pa_cons pe_str (pa_cons (pe_ix ix_list (pe_call0 G__law_keywords (hr.mono (by decide)) (by rfl) g__law_keywords k__law_keywords b__law_keywords .nil pass0) (pe_call G__law_pick (hr.mono (by decide)) (by rfl) g__law_pick k__law_pick b__law_pick .nil pass0 (pa_cons (pv 0) (pa_cons pe_int pa_nil))) (fun _ _ => rfl)) pa_nil)))))
        pss_nil)
      (pss_cons (ps_if (pt_cmpR op_eq (pv 1) pe_int (nomark _))
        (pss_one (ps_ret (pe_tup (pa_cons pe_str (pa_cons (pe_ix ix_list (pe_lst (pa_strs (xs := sgA) (by rfl))) (pe_call G__law_pick (hr.mono (by decide)) (by rfl) g__law_pick k__law_pick b__law_pick .nil pass0 (pa_cons (pv 0) (pa_cons pe_int pa_nil))) (fun _ _ => rfl)) pa_nil)))))
        pss_nil)
      (pss_one (ps_ret (pe_tup (pa_cons pe_str (pa_cons (pe_ix ix_list (pe_lst (pa_strs (xs := sgB) (by rfl))) (pe_call G__law_pick (hr.mono (by decide)) (by rfl) g__law_pick k__law_pick b__law_pick .nil pass0 (pa_cons (pv 0) (pa_cons pe_int pa_nil))) (fun _ _ => rfl)) pa_nil)))))))))), ?_⟩
    refine ⟨_, rfl, d, r, a, sd, row, 9, rfl, D, by decide, fun n0 hn0 => ?_⟩
    have l1 : Later H (upd H d (.dK (dkv r (a + 1) sd))) d r sd row := Later.pick D fun b o _ e => e
    -- the choice out of a list that stands at p
    have choose : ∀ {H1 : Hp} {p : Addr} {xs : List Str} {k : Str} {c : Int}, Later H H1 d r sd row → H1 p = some (.lst (xs.map V.str)) → (∀ x ∈ xs, (k, x) ∈ wordsOf) → c = ((xs.length : Nat) : Int) → 0 < xs.length →
        sp__law_pick [.ref d, .int c] H1 (fun y H2 => rIxL K (.ref p) y H2 fun v H3 => [V.str k, v].length ≤ sizeLine ∧ ∀ t, H3 t = none → Q (.ref t) (upd H3 t (.tup [.str k, v]))) E0 := by
      intro H1 p xs k c l hp hx hc h0
      subst hc
      obtain ⟨a1, D1⟩ := l.dr
      refine ⟨d, r, a1, sd, row, xs.length, rfl, D1, h0, fun n hn => ?_⟩
      obtain ⟨x, hxm, hxa⟩ := pick_str hn
      have npd : p ≠ d := ne_of hp D1.d (by intro z; cases z)
      have l2 : Later H (upd H1 d (.dK (dkv r (a1 + 1) sd))) d r sd row := Later.pick D1 l.st
      refine ⟨p, _, n, .str x, rfl, rfl, SqL.of (by rw [upd_ne npd]; exact hp), hxa, by show 2 ≤ sizeLine; decide, fun t nt => ?_⟩
      exact q t k x _ (hx x hxm) (l2.upd nt) (l2.free D nt) upd_same
    refine ⟨_, rfl, _, _, rfl, rfl, _, rfl, ite2 (fun c1 => ?_) (fun c1 => ?_)⟩
    · refine ⟨by decide, fun p np => ?_⟩
      refine ⟨_, rfl, _, rfl, choose (l1.upd np) upd_same ?_ rfl (by decide)⟩
      exact fun x hx => List.mem_append_left _ (mem_tagged hx)
    refine ⟨_, rfl, rfl, _, rfl, ite2 (fun c2 => ?_) (fun c2 => ?_)⟩
    · refine ⟨by decide, fun p np => ?_⟩
      refine ⟨_, rfl, choose (l1.upd np) upd_same ?_ rfl (by decide)⟩
      exact fun x hx => List.mem_append_right _ (List.mem_append_left _ (mem_tagged hx))
    refine ⟨_, rfl, _, _, rfl, rfl, _, rfl, ite2 (fun c3 => ?_) (fun c3 => ?_)⟩
    · refine ⟨rfl, fun p H' s1 np hp => ?_⟩
      obtain ⟨a1, D1⟩ := l1.dr
      have l2 : Later H H' d r sd row := ⟨⟨a1, D1.same s1⟩, fun b o hb e => s1 _ _ (l1.st b o hb e)⟩
      refine ⟨_, rfl, choose l2 hp ?_ rfl (by decide)⟩
      exact fun x hx => List.mem_append_right _ (List.mem_append_right _ (List.mem_append_left _ (mem_tagged hx)))
    refine ⟨_, rfl, rfl, _, rfl, ite2 (fun c4 => ?_) (fun c4 => ?_)⟩
    · refine ⟨by decide, fun p np => ?_⟩
      refine ⟨_, rfl, choose (l1.upd np) upd_same ?_ rfl (by decide)⟩
      exact fun x hx => List.mem_append_right _ (List.mem_append_right _ (List.mem_append_right _ (List.mem_append_left _ (mem_tagged hx))))
    · refine ⟨by decide, fun p np => ?_⟩
      refine ⟨_, rfl, choose (l1.upd np) upd_same ?_ rfl (by decide)⟩
      exact fun x hx => List.mem_append_right _ (List.mem_append_right _ (List.mem_append_right _ (List.mem_append_right _ (mem_tagged hx))))
end
end Ow
namespace Ow
open PySem L2
def cd (x : Str) : List Nat := x.cps.toList
theorem S_cd (x : Str) : S (cd x) = x := (S_of x).symm
def skB : Bool → List Nat → Bool
  | false, [] => true
  | true, [] => false
  | false, c :: r => if c = 10 then skB false r else if c = 32 then skB false r else if c = 35 then skB true r else false
  | true, c :: r => if c = 10 then skB false r else skB true r
theorem skB_spec : ∀ x : List Nat, (skB false x = true → ∀ pre s ts, Toks (pre ++ x) s ts → Toks pre (x ++ s) ts) ∧
    (skB true x = true → ∀ pre c s ts, 10 ∉ c → Toks (pre ++ 35 :: (c ++ x)) s ts → Toks pre (35 :: (c ++ (x ++ s))) ts)
  | [] => ⟨fun _ pre s ts h => by simpa using h, fun h => by simp [skB] at h⟩
  | c :: r => by
    obtain ⟨i1, i2⟩ := skB_spec r
    constructor
    · intro h pre s ts ht
      unfold skB at h
      by_cases h10 : c = 10
      · subst h10
        rw [if_pos rfl] at h
        exact Toks.nl (i1 h (pre ++ [10]) s ts (by simpa using ht))
      rw [if_neg h10] at h
      by_cases h32 : c = 32
      · subst h32
        rw [if_pos rfl] at h
        exact Toks.sp (i1 h (pre ++ [32]) s ts (by simpa using ht))
      rw [if_neg h32] at h
      by_cases h35 : c = 35
      · subst h35
        rw [if_pos rfl] at h
        exact i2 h pre [] s ts (by simp) (by simpa using ht)
      · rw [if_neg h35] at h; cases h
    · intro h pre cc s ts hc ht
      unfold skB at h
      by_cases h10 : c = 10
      · subst h10
        rw [if_pos rfl] at h
        refine Toks.cm cc hc (.inr ⟨_, rfl⟩) (Toks.nl (i1 h _ s ts ?_))
        simpa using ht
      · rw [if_neg h10] at h
        have := i2 h pre (cc ++ [c]) s ts (by simp; exact ⟨hc, fun e => h10 e.symm⟩) (by simpa using ht)
        simpa using this
theorem skip {x : List Nat} (h : skB false x = true) {pre s : List Nat} {ts : List Tk} (t : Toks (pre ++ x) s ts) : Toks pre (x ++ s) ts := (skB_spec x).1 h pre s ts t
def bset : List Nat := [10, 32, 35, 123, 125, 40, 41, 91, 93, 44, 59, 43, 42, 58, 46]
/-- what may stand behind this word with nothing between -/
def After (x : Str) (s : List Nat) : Prop := x ∈ sgB ∨ s = [] ∨ ∃ c r, s = c :: r ∧ c ∈ bset
theorem Bd_of {s : List Nat} (h : s = [] ∨ ∃ c r, s = c :: r ∧ c ∈ bset) : Bd s := by
  intro c r e
  rcases h with h | ⟨c', r', e', hm⟩
  · rw [h] at e; cases e
  · rw [e'] at e; cases e
    have : ∀ c ∈ bset, isW c = false := by decide
    exact this c hm
def mayP (x w : List Nat) : Bool := if x.length ≤ w.length then decide (x <+: w) else (decide (w <+: x) && decide (x.getD w.length 0 ∈ bset))
theorem mayP_of {x w s : List Nat} (hs : s = [] ∨ ∃ c r, s = c :: r ∧ c ∈ bset) (h : x <+: w ++ s) : mayP x w = true := by
  unfold mayP
  by_cases hl : x.length ≤ w.length
  · rw [if_pos hl]
    exact decide_eq_true (List.prefix_of_prefix_length_le h (List.prefix_append w s) hl)
  · rw [if_neg hl]
    have hw : w <+: x := List.prefix_of_prefix_length_le (List.prefix_append w s) h (by omega)
    rw [decide_eq_true hw, Bool.true_and]
    obtain ⟨t, rfl⟩ := hw
    have ht : t <+: s := (List.prefix_append_right_inj w).mp h
    cases t with
    | nil => simp at hl
    | cons a t' =>
      obtain ⟨u, hu⟩ := ht
      rcases hs with rfl | ⟨c, r, rfl, hm⟩
      · cases hu
      · have e : a = c := by simpa using congrArg List.head? hu
        subst e
        refine decide_eq_true ?_
        have : (w ++ a :: t').getD w.length 0 = a := by simp [List.getD]
        rw [this]; exact hm
def mayA (x w : List Nat) : Bool := if x.length ≤ w.length then decide (x <+: w) else decide (w <+: x)
theorem mayA_of {x w s : List Nat} (h : x <+: w ++ s) : mayA x w = true := by
  unfold mayA
  by_cases hl : x.length ≤ w.length
  · rw [if_pos hl]
    exact decide_eq_true (List.prefix_of_prefix_length_le h (List.prefix_append w s) hl)
  · rw [if_neg hl]
    exact decide_eq_true (List.prefix_of_prefix_length_le (List.prefix_append w s) h (by omega))
theorem noPre {i : Nat} {w s : List Nat} {f : List Nat → List Nat → Bool} (hf : ∀ x, x <+: w ++ s → f x w = true) (h : (signs.take i).all (fun x => !f x w) = true) : ∀ j x, j < i → signs[j]? = some x → ¬ x <+: w ++ s := by
  intro j x hj hx hp
  have hm : x ∈ signs.take i := List.mem_of_getElem? (i := j) (by rw [List.getElem?_take_of_lt hj]; exact hx)
  have := List.all_eq_true.mp h x hm
  rw [hf x hp] at this
  cases this
/-- a sign: its place, and that no sign ahead of it fits -/
def signB (f : List Nat → List Nat → Bool) (i : Nat) (w : List Nat) : Bool := match w with
  | [] => false
  | c :: r => !isL c && (!isD c && (decide (c ≠ 10) && (decide (c ≠ 32) && (decide (c ≠ 35) && (decide (signs[i]? = some (c :: r)) && (signs.take i).all (fun x => !f x (c :: r)))))))
theorem signB_spec {f : List Nat → List Nat → Bool} {i : Nat} {w s : List Nat} (h : signB f i w = true) (hf : ∀ x, x <+: w ++ s → f x w = true) : TokW "sign" w s := by
  unfold signB at h
  cases w with
  | nil => cases h
  | cons c r =>
    simp only [Bool.and_eq_true] at h
    obtain ⟨h1, h2, h3, h4, h5, h6, h7⟩ := h
    exact .sign i c r s (by simpa using h1) (by simpa using h2) (of_decide_eq_true h3) (of_decide_eq_true h4) (of_decide_eq_true h5) (of_decide_eq_true h6) (noPre hf h7)
def placeOf (w : List Nat) : Nat := (signs.findIdx (· == w))
theorem sgA_ok : ∀ x ∈ sgA, signB mayP (placeOf (cd x)) (cd x) = true ∧ x ∉ sgB ∨ x ∈ sgB := by decide +kernel
theorem sgA_ok2 : ∀ x ∈ sgA, signB mayP (placeOf (cd x)) (cd x) = true := by decide +kernel
theorem sgB_ok : ∀ x ∈ sgB, signB mayA (placeOf (cd x)) (cd x) = true := by decide +kernel
def wordB (w : List Nat) : Bool := match w with
  | [] => false
  | c :: r => isL c && r.all isW
theorem nm_ok : ∀ x ∈ nmL, wordB (cd x) = true ∧ x ∉ kws ∧ x ∉ sgB := by decide +kernel
theorem kw_ok : ∀ x ∈ kws, wordB (cd x) = true ∧ x ∉ sgB := by decide +kernel
theorem nu_ok : ∀ x ∈ nuL, (match cd x with | [] => false | c :: r => !isL c && isD c && r.all isD && decide (r.length ≤ 9) && (r.isEmpty || decide (c ≠ 48))) = true ∧ (match PySem.intText? x with | some n => decide (n ≤ 4294967295) | none => false) = true ∧ x ∉ sgB := by decide +kernel
theorem words_ok {k x : Str} (h : (k, x) ∈ wordsOf) {s : List Nat} (ha : After x s) : TokW k (cd x) s := by
  unfold wordsOf tagged at h
  simp only [List.mem_append, List.mem_map] at h
  have wd : ∀ k', wordB (cd x) = true → x ∉ sgB → (k' = if x ∈ kws then ("keyword" : Str) else ("name" : Str)) → TokW k' (cd x) s := fun k' h1 h2 h3 => by
    have hb : Bd s := by
      rcases ha with ha | ha
      · exact absurd ha h2
      · exact Bd_of ha
    have hS := S_cd x
    unfold wordB at h1
    cases hc : cd x with
    | nil => rw [hc] at h1; cases h1
    | cons c r =>
      rw [hc] at h1 hS
      have h1' := Bool.and_eq_true_iff.mp h1
      have := TokW.word c r s h1'.1 (fun y hy => List.all_eq_true.mp h1'.2 y hy) hb
      rw [hS, ← h3] at this
      exact this
  rcases h with ⟨y, hy, e⟩ | ⟨y, hy, e⟩ | ⟨y, hy, e⟩ | ⟨y, hy, e⟩ | ⟨y, hy, e⟩
  · obtain ⟨rfl, rfl⟩ := Prod.mk.inj e
    obtain ⟨h1, h2, h3⟩ := nm_ok _ hy
    exact wd _ h1 h3 (by rw [if_neg h2])
  · obtain ⟨rfl, rfl⟩ := Prod.mk.inj e
    obtain ⟨h1, h2, h3⟩ := nu_ok _ hy
    have hb : Bd s := by
      rcases ha with ha | ha
      · exact absurd ha h3
      · exact Bd_of ha
    have hS := S_cd y
    cases hc : cd y with
    | nil => rw [hc] at h1; cases h1
    | cons c r =>
      rw [hc] at h1 hS
      simp only [Bool.and_eq_true, Bool.or_eq_true, decide_eq_true_eq] at h1
      obtain ⟨⟨⟨⟨a1, a2⟩, a3⟩, a4⟩, a5⟩ := h1
      refine .num c r s (by simpa using a1) a2 ⟨?_, ?_, ?_, ?_⟩ hb
      · intro z hz
        rcases List.mem_cons.mp hz with rfl | hz
        · exact a2
        · exact List.all_eq_true.mp a3 z hz
      · rintro ⟨b1, b2⟩
        rcases a5 with a5 | a5
        · have : r = [] := by simpa using a5
          subst this; simp at b1
        · exact a5 (by simpa using b2)
      · simp; omega
      · rw [hS]
        cases hi : PySem.intText? y with
        | none => rw [hi] at h2; cases h2
        | some n => rw [hi] at h2; exact ⟨n, rfl, of_decide_eq_true h2⟩
  · obtain ⟨rfl, rfl⟩ := Prod.mk.inj e
    obtain ⟨h1, h3⟩ := kw_ok _ hy
    exact wd _ h1 h3 (by rw [if_pos hy])
  · obtain ⟨rfl, rfl⟩ := Prod.mk.inj e
    rcases ha with ha | ha
    · exact signB_spec (sgB_ok _ ha) fun z hz => mayA_of hz
    · exact signB_spec (sgA_ok2 _ hy) fun z hz => mayP_of ha hz
  · obtain ⟨rfl, rfl⟩ := Prod.mk.inj e
    exact signB_spec (sgB_ok _ hy) fun z hz => mayA_of hz
theorem words_len {k x : Str} (h : (k, x) ∈ wordsOf) : (cd x).length ≤ 10 := by
  have : ∀ y ∈ wordsOf, (cd y.2).length ≤ 10 := by decide +kernel
  exact this _ h
theorem sgB_head : ∀ x ∈ sgB, (match cd x with | [] => false | c :: _ => decide (c ∈ bset)) = true := by decide +kernel
def firsts : List Str := [" ", "\n", "  ", "# a _ comment 'here' > @\n"]
def seconds : List Str := ["", "", "", "\n", "#\n ", "\n   ", "#x\n\n"]
def begins : List Str := ["", "", " ", "\n", "# begin\n  "]
def lasts : List Str := ["", " ", "\n", "\n  ", " # the end"]
theorem firsts_ok : ∀ x ∈ firsts, skB false (cd x) = true ∧ (match cd x with | [] => false | c :: _ => decide (c ∈ bset)) = true ∧ (cd x).length ≤ 30 := by decide +kernel
theorem seconds_ok : ∀ x ∈ seconds, skB false (cd x) = true ∧ (cd x).length ≤ 30 := by decide +kernel
theorem begins_ok : ∀ x ∈ begins, skB false (cd x) = true ∧ (cd x).length ≤ 30 := by decide +kernel
theorem lasts_ok : ∀ x ∈ lasts, (skB false (cd x) = true ∨ x = " # the end") ∧ (cd x).length ≤ 30 ∧ (cd x = [] ∨ (match cd x with | [] => false | c :: _ => decide (c ∈ bset)) = true) := by decide +kernel
theorem end_ok {x : Str} (h : x ∈ lasts) (pre : List Nat) : Toks pre (cd x) [("end", "", rowOf (pre ++ cd x), colOf (pre ++ cd x))] := by
  rcases (lasts_ok x h).1 with h1 | rfl
  · have := skip h1 (pre := pre) (s := []) (Toks.fin (pre ++ cd x))
    rwa [List.append_nil] at this
  · have e : cd (" # the end" : Str) = 32 :: 35 :: ([32, 116, 104, 101, 32, 101, 110, 100] ++ []) := by decide +kernel
    rw [e]
    have h2 := Toks.fin (pre ++ [32] ++ 35 :: [32, 116, 104, 101, 32, 101, 110, 100])
    have h3 := Toks.sp (Toks.cm [32, 116, 104, 101, 32, 101, 110, 100] (by decide) (.inl rfl) h2)
    simpa using h3
/-- the text so far: whatever comes behind it is read on from there -/
def Good (t : List Nat) (D : List Tk) (last : Str) : Prop := ∀ s rest, After last s → Toks t s rest → Toks [] (t ++ s) (D ++ rest)
theorem Good.start {x : Str} (h : x ∈ begins) : Good (cd x) [] "(" := fun s rest _ ht => skip (begins_ok x h).1 (by simpa using ht)
theorem Good.word {t : List Nat} {D : List Tk} {last k x : Str} (g : Good t D last) (h : (k, x) ∈ wordsOf) (hd : last ∈ sgB ∨ x ∈ sgB) : Good (t ++ cd x) (D ++ [(k, x, rowOf t, colOf t)]) x := by
  intro s rest ha ht
  have tw := words_ok h ha
  have h1 := Toks.tk tw ht
  rw [S_cd] at h1
  have h2 : After last (cd x ++ s) := by
    rcases hd with hd | hd
    · exact .inl hd
    · have := sgB_head x hd
      cases hc : cd x with
      | nil => rw [hc] at this; cases this
      | cons c r => rw [hc] at this; exact .inr (.inr ⟨c, r ++ s, rfl, of_decide_eq_true this⟩)
  have := g _ _ h2 h1
  simpa using this
theorem Good.sep {t : List Nat} {D : List Tk} {last k x y z : Str} (g : Good t D last) (hy : y ∈ firsts) (hz : z ∈ seconds) (h : (k, x) ∈ wordsOf) :
    Good (t ++ (cd y ++ cd z) ++ cd x) (D ++ [(k, x, rowOf (t ++ (cd y ++ cd z)), colOf (t ++ (cd y ++ cd z)))]) x := by
  intro s rest ha ht
  have tw := words_ok h ha
  have h1 := Toks.tk tw ht
  rw [S_cd] at h1
  obtain ⟨f1, f2, _⟩ := firsts_ok y hy
  obtain ⟨s1, _⟩ := seconds_ok z hz
  have h2 := skip f1 (skip s1 (by rw [List.append_assoc]; exact h1))
  have h3 : After last (cd y ++ (cd z ++ (cd x ++ s))) := by
    cases hc : cd y with
    | nil => rw [hc] at f2; cases f2
    | cons c r => rw [hc] at f2; exact .inr (.inr ⟨c, _, rfl, of_decide_eq_true f2⟩)
  have := g _ _ h3 h2
  simpa using this
theorem Good.fin {t : List Nat} {D : List Tk} {last x : Str} (g : Good t D last) (h : x ∈ lasts) : Toks [] (t ++ cd x) (D ++ [(("end", "", rowOf (t ++ cd x), colOf (t ++ cd x)) : Tk)]) := by
  refine g _ _ ?_ (end_ok h t)
  rcases (lasts_ok x h).2.2 with h1 | h1
  · exact .inr (.inl h1)
  · cases hc : cd x with
    | nil => exact .inr (.inl rfl)
    | cons c r => rw [hc] at h1; exact .inr (.inr ⟨c, r, rfl, of_decide_eq_true h1⟩)
end Ow
namespace Ow
open PySem PySem.Spec PyProof.Rows L2
section
variable {P : Program} {w : World} {K : PySem.W.Frag} {mg : Str → Option Value} {base : Heap}
abbrev s__law_between : Stmt := topS 26
theorem sc__law_between : FnScope ["draws", "first"] ["draws"] (defScope s__law_between) := ⟨rfl, rfl, rfl, by decide +kernel, rfl, by decide +kernel, by decide +kernel⟩
def sp__law_between : Sp := fun vs H Q _ => ∃ (d r : Addr) (at' sd : Int) (row : List Int), vs = [.ref d] ∧ Draws H d r at' sd row ∧
  ∀ y z H', y ∈ firsts → z ∈ seconds → Later H H' d r sd row → Q (.str (y ++ z)) H'
theorem fs_len {y z : Str} (hy : y ∈ firsts) (hz : z ∈ seconds) : y.length + z.length ≤ 60 := by
  have h1 := (firsts_ok y hy).2.2
  have h2 := (seconds_ok z hz).2
  have e1 : (cd y).length = y.length := by simp [cd, Str.length]
  have e2 : (cd z).length = z.length := by simp [cd, Str.length]
  omega
theorem ok__law_between {f : Addr} {fd : FuncData} (F : Fun K "_law_between" "_law_between" s__law_between f fd) (hP : Has P w K mg base 2 "_law_pick" ["draws", "many"] sp__law_pick) :
    FnOk P w K mg base CX0 3 f fd ["draws"] sp__law_between := by
  obtain ⟨f1, fd1, G__law_pick, k__law_pick, b__law_pick, g__law_pick⟩ := hP
  refine F.ok sc__law_between (fun vs H Q E h => ?_) (fun cdv A outer s H vs Q E hr h => ?_)
  · obtain ⟨_, _, _, _, _, rfl, _⟩ := h; rfl
  · obtain ⟨d, r, a, sd, row, rfl, D, q⟩ := h
    refine ⟨_, (pss_cons (ps_set (i := 1) sc__law_between.nd rfl (.inl rfl) (pe_ix ix_list (pe_lst (pa_strs (xs := firsts) (by rfl))) (pe_call G__law_pick (hr.mono (by decide)) (by rfl) g__law_pick k__law_pick b__law_pick .nil pass0 (pa_cons (pv 0) (pa_cons pe_int pa_nil))) (fun _ _ => rfl)))
      (pss_one (ps_ret (pe_op op_add_str (pv 1) (pe_ix ix_list (pe_lst (pa_strs (xs := seconds) (by rfl))) (pe_call G__law_pick (hr.mono (by decide)) (by rfl) g__law_pick k__law_pick b__law_pick .nil pass0 (pa_cons (pv 0) (pa_cons pe_int pa_nil))) (fun _ _ => rfl)))))), ?_⟩
    refine ⟨by decide, fun p np => ?_⟩
    have D1 := D.same (same_upd (o := .lst (firsts.map V.str)) np)
    refine ⟨_, rfl, d, r, a, sd, row, 4, rfl, D1, by decide, fun n hn => ?_⟩
    obtain ⟨y, hy, ay⟩ := pick_str (xs := firsts) hn
    have l1 := Later.pick (H := H) D1 (fun b o _ e => same_upd np _ _ e)
    have npd : p ≠ d := fun e => by rw [e, D.d] at np; cases np
    refine ⟨p, _, _, .str y, rfl, rfl, SqL.of (by rw [upd_ne npd, upd_same]), ay, ?_⟩
    refine ⟨_, rfl, by decide, fun p2 np2 => ?_⟩
    obtain ⟨a2, D2⟩ := l1.dr
    have l2 := l1.upd (o := .lst (seconds.map V.str)) np2
    have D3 := D2.same (same_upd (o := .lst (seconds.map V.str)) np2)
    refine ⟨_, rfl, d, r, a2, sd, row, 7, rfl, D3, by decide, fun n2 hn2 => ?_⟩
    obtain ⟨z, hz, az⟩ := pick_str (xs := seconds) hn2
    have npd2 : p2 ≠ d := fun e => by rw [e, D2.d] at np2; cases np2
    refine ⟨p2, _, _, .str z, rfl, rfl, SqL.of (by rw [upd_ne npd2, upd_same]), az, _, _, rfl, rfl, ?_, ?_⟩
    · exact Nat.le_trans (fs_len hy hz) (by decide)
    · exact q y z _ hy hz (Later.pick D3 l2.st)
end
end Ow
namespace Ow
open PySem PySem.Spec PyProof.Rows L2
/-! ### tokens as data -/
def tkD (t : Tk) : PyData := .tuple [.str t.1, .str t.2.1, .int t.2.2.1, .int t.2.2.2]
theorem dp_tok {K : PySem.W.Frag} {H : Hp} {p : Addr} {t : Tk} (h : TokAt H p t) : Dp K H (.ref p) (tkD t) :=
  .tup (SqT.of h) (.cons (.str _) (.cons (.str _) (.cons (.int _) (.cons (.int _) .nil))))
theorem dp_toks {K : PySem.W.Frag} {H : Hp} : ∀ {ps : List Addr} {ts : List Tk}, TL H ps ts → DpAll K H (ps.map V.ref) (ts.map tkD)
  | _, _, .nil => .nil
  | _, _, .cons h t => .cons (dp_tok h) (dp_toks t)
def strsOk (t : Tk) : Prop := PyData.strOk t.1 = true ∧ PyData.strOk t.2.1 = true
theorem lay_toks : ∀ ts : List Tk, (∀ t ∈ ts, strsOk t) → PyData.canLayAll0 (ts.map tkD) = true
  | [], _ => rfl
  | t :: r, h => by
    have h1 := h t (by simp)
    have ih := lay_toks r fun x hx => h x (by simp [hx])
    rw [List.map_cons]
    have e : PyData.canLay0 (tkD t) = true := by unfold tkD; simp [PyData.canLayAll0, PyData.canLay0, h1.1, h1.2]
    simp [PyData.canLayAll0, e, ih]
theorem depth_toks : ∀ ts : List Tk, PyData.depthAll (ts.map tkD) ≤ 3
  | [] => by simp [PyData.depthAll]
  | t :: r => by
    have ih := depth_toks r
    rw [List.map_cons]
    have e : PyData.depth (tkD t) ≤ 3 := by unfold tkD; simp [PyData.depthAll, PyData.depth]
    simp [PyData.depthAll]
    omega
theorem shaped_toks {ts : List Tk} (h : ∀ t ∈ ts, strsOk t) : SeqAt.shaped (.list (ts.map tkD)) = true := by
  unfold SeqAt.shaped
  have h1 := lay_toks ts h
  have h2 := depth_toks ts
  have e1 : PyData.canLay0 (.list (ts.map tkD)) = true := by simp [PyData.canLay0, h1]
  have e2 : PyData.depth (.list (ts.map tkD)) ≤ 64 := by simp [PyData.depth]; omega
  rw [e1, decide_eq_true e2]
  rfl
theorem eqv_toks {ts : List Tk} (h : ∀ t ∈ ts, strsOk t) : PyData.eqv (.list (ts.map tkD)) (.list (ts.map tkD)) = true := by
  have := shaped_toks h
  unfold SeqAt.shaped at this
  exact SeqAt.eqv_refl _ (Bool.and_eq_true_iff.mp this).1
end Ow
namespace Ow
open PySem PySem.Spec PyProof.Rows L2
section
variable {P : Program} {w : World} {K : PySem.W.Frag} {mg : Str → Option Value} {base : Heap}
theorem words_strOk : ∀ y ∈ wordsOf, PyData.strOk y.1 = true ∧ PyData.strOk y.2 = true := by decide +kernel
structure Inn (H : Hp) (d r q : Addr) (sd : Int) (row : List Int) (ps : List Addr) (D : List Tk) : Prop where
  dr : ∃ a', Draws H d r a' sd row
  qq : H q = some (.lst (ps.map V.ref))
  tl : TL H ps D
  ne : r ≠ q
section
variable {H H' : Hp} {d r q : Addr} {sd : Int} {row : List Int} {ps : List Addr} {D : List Tk}
theorem Inn.same (I : Inn H d r q sd row ps D) (s : Same H H') : Inn H' d r q sd row ps D :=
  let ⟨a, A⟩ := I.dr
  ⟨⟨a, A.same s⟩, s _ _ I.qq, I.tl.same fun b xs e => s _ _ e, I.ne⟩
theorem Inn.nqd (I : Inn H d r q sd row ps D) : q ≠ d := by
  obtain ⟨a, A⟩ := I.dr
  exact ne_of I.qq A.d (by intro z; cases z)
theorem Inn.later (I : Inn H d r q sd row ps D) (l : Later H H' d r sd row) : Inn H' d r q sd row ps D := by
  obtain ⟨a, A⟩ := I.dr
  exact ⟨l.dr, l.st _ _ I.nqd I.qq, I.tl.same fun b xs e => l.st _ _ (ne_of e A.d (by intro z; cases z)) e, I.ne⟩
end
theorem same_later {H H' : Hp} {d r : Addr} {sd a : Int} {row : List Int} (D : Draws H d r a sd row) (s : Same H H') : Later H H' d r sd row := ⟨⟨a, D.same s⟩, fun b o _ e => s _ _ e⟩
/-- the tuple that due gets -/
theorem due_get {H : Hp} {d r q p : Addr} {sd : Int} {row : List Int} {ps : List Addr} {D : List Tk} {t : Tk} (I : Inn H d r q sd row ps D) (np : H p = none) :
    Inn (upd (upd H p (.tup [.str t.1, .str t.2.1, .int t.2.2.1, .int t.2.2.2])) q (.lst (ps.map V.ref ++ [.ref p]))) d r q sd row (ps ++ [p]) (D ++ [t]) := by
  obtain ⟨a, A⟩ := I.dr
  have nqp : q ≠ p := ne_of_none I.qq np
  have ndq : d ≠ q := I.nqd.symm
  have nrq : r ≠ q := I.ne
  refine ⟨⟨a, ⟨?_, ?_, A.at0, A.small⟩⟩, ?_, ?_, nrq⟩
  · rw [upd_ne ndq]; exact same_upd np _ _ A.d
  · rw [upd_ne nrq]; exact same_upd np _ _ A.r
  · rw [upd_same, List.map_append]; rfl
  · refine pairedApp (I.tl.same fun b xs e => ?_) ?_
    · have nb : b ≠ q := ne_of e I.qq (by intro z; cases z)
      rw [upd_ne nb]; exact same_upd np _ _ e
    · show (upd (upd H p _) q _) p = _
      rw [upd_ne nqp.symm, upd_same]
abbrev s_law : Stmt := topS 27
theorem sc_law : FnScope ["script", "draws", "text", "due", "last", "k", "kind", "word", "actual"] ["script"] (defScope s_law) := ⟨rfl, rfl, rfl, by decide +kernel, rfl, by decide +kernel, by decide +kernel⟩
def spLaw (K : PySem.W.Frag) : Sp := fun vs H Q _ => ∃ (a : Addr) (ns : List Int), vs = [.ref a] ∧ SqL K H a (ns.map V.int) ∧ ns.length ≤ 63 ∧ ∀ H', Q (.bl true) H'
theorem end_strOk (r c : Int) : strsOk (("end", "", r, c) : Tk) := ⟨(by decide +kernel : PyData.strOk ("end" : Str) = true), (by decide +kernel : PyData.strOk ("" : Str) = true)⟩
theorem row_int (t : List Nat) : Txt.count (S t) "\n" + 1 = rowOf t := by rw [count_nl]; unfold rowOf; omega
theorem col_int (t : List Nat) : ((S t).length : Int) - Txt.rfind (S t) "\n" = colOf t := by rw [rfind_nl, S_len]; unfold colOf; omega
theorem ok_law {f : Addr} {fd : FuncData} (F : Fun K "law" "law" s_law f fd) (gK : GTup K mg "KEYWORDS" (kws.map V.str))
    (hS : Has P w K mg base 2 "_law_stream" ["script", "most"] (sp__law_stream K)) (hT : Has P w K mg base 4 "tokens" ["text"] sp_tokens)
    (hP : Has P w K mg base 2 "_law_pick" ["draws", "many"] sp__law_pick) (hW : Has P w K mg base 3 "_law_word" ["draws"] sp__law_word)
    (hK : Has P w K mg base 1 "_law_keywords" [] sp__law_keywords) (hA : Has P w K mg base 1 "_law_alone" ["text"] sp__law_alone)
    (hB : Has P w K mg base 3 "_law_between" ["draws"] sp__law_between)
    (z_range : mg "range" = none) (z_min : mg "min" = none) (z_len : mg "len" = none) (z_isinstance : mg "isinstance" = none) (z_list : mg "list" = none) (z_tuple : mg "tuple" = none) :
    FnOk P w K mg base CX0 5 f fd ["script"] (spLaw K) := by
  obtain ⟨aK, c_KEYWORDS, hKW⟩ := gK
  obtain ⟨f1, fd1, G__law_stream, k__law_stream, b__law_stream, g__law_stream⟩ := hS
  obtain ⟨f2, fd2, G_tokens, k_tokens, b_tokens, g_tokens⟩ := hT
  obtain ⟨f3, fd3, G__law_pick, k__law_pick, b__law_pick, g__law_pick⟩ := hP
  obtain ⟨f4, fd4, G__law_word, k__law_word, b__law_word, g__law_word⟩ := hW
  obtain ⟨f5, fd5, G__law_keywords, k__law_keywords, b__law_keywords, g__law_keywords⟩ := hK
  obtain ⟨f6, fd6, G__law_alone, k__law_alone, b__law_alone, g__law_alone⟩ := hA
  obtain ⟨f7, fd7, G__law_between, k__law_between, b__law_between, g__law_between⟩ := hB
  refine F.ok sc_law (fun vs H Q E h => ?_) (fun cdv A outer s H vs Q E hr h => ?_)
  · obtain ⟨_, _, rfl, _⟩ := h; rfl
  · obtain ⟨a, ns, rfl, hS, hns, q⟩ := h
    have hu := hu_of hr
    refine ⟨_, (pss_cons (ps_set (i := 1) sc_law.nd rfl (.inl rfl) (pe_call G__law_stream (hr.mono (by decide)) (by rfl) g__law_stream k__law_stream b__law_stream .nil pass0 (pa_cons (pv 0) (pa_cons pe_int pa_nil))))
      (pss_cons (ps_set (i := 2) sc_law.nd rfl (.inl rfl) (pe_ix ix_list (pe_lst (pa_strs (xs := begins) (by rfl))) (pe_call G__law_pick (hr.mono (by decide)) (by rfl) g__law_pick k__law_pick b__law_pick .nil pass0 (pa_cons (pv 1) (pa_cons pe_int pa_nil))) (fun _ _ => rfl)))
      (pss_cons (ps_set (i := 3) sc_law.nd rfl (.inl rfl) (pe_lst pa_nil))
      (pss_cons (ps_set (i := 4) sc_law.nd rfl (.inl rfl) pe_str)
      (pss_cons (ps_for PassesOwn.never rfl (pi_range1 (by rfl) z_range (pa_cons (pe_callB (call_min2 rfl) (by rfl) z_min (by decide +kernel) (pa_cons pe_int (pa_cons (pe_op op_add pe_int (pe_op op_fdiv (pe_callB call_len_seq (by rfl) z_len PySem.boot_len (pa_cons (pe_dget hu (pv 1) pe_str (fun _ _ => rfl)) pa_nil)) pe_int)) pa_nil))) pa_nil)) (pg_name (i := 5) sc_law.nd rfl (.inl rfl))
        (pss_cons (ps_asg (pe_call G__law_word (hr.mono (by decide)) (by rfl) g__law_word k__law_word b__law_word .nil pass0 (pa_cons (pv 1) pa_nil)) (pg_tup rfl (pgs_cons (pg_name (i := 6) sc_law.nd rfl (.inl rfl)) (pgs_cons (pg_name (i := 7) sc_law.nd rfl (.inl rfl)) pgs_nil))))
        (C8.pss_cut (ps_if (PW.pt (pw_or (pt_not (PW.pt (pw_or (pt_val (pe_call G__law_alone (hr.mono (by decide)) (by rfl) g__law_alone k__law_alone b__law_alone .nil pass0 (pa_cons (pv 4) pa_nil))) (pw_or1 (pt_val (pe_call G__law_alone (hr.mono (by decide)) (by rfl) g__law_alone k__law_alone b__law_alone .nil pass0 (pa_cons (pv 7) pa_nil))))))) (pw_or1 (pt_cmpR op_eq (pe_call G__law_pick (hr.mono (by decide)) (by rfl) g__law_pick k__law_pick b__law_pick .nil pass0 (pa_cons (pv 1) (pa_cons pe_int pa_nil))) pe_int (nomark _)))))
          (pss_one (ps_if (pt_cmpR op_gt (pv 5) pe_int (nomark _))
            (pss_one (ps_set (i := 2) sc_law.nd rfl (.inl rfl) (pe_op op_add_str (pv 2) (pe_call G__law_between (hr.mono (by decide)) (by rfl) g__law_between k__law_between b__law_between .nil pass0 (pa_cons (pv 1) pa_nil)))))
            pss_nil))
          pss_nil)
        (pss_cons (ps_expr (pe_bm PySem.F.plainAttrs_list PySem.F.slot_list_append PySem.F.type_list_append mt_append (pv 3) (pa_cons (pe_tup (pa_cons (pv 6) (pa_cons (pv 7) (pa_cons (pe_op op_add (pe_bm PySem.F.plainAttrs_str PySem.F.slot_str_count PySem.F.type_str_count mt_count (pv 2) (pa_cons pe_str pa_nil)) pe_int) (pa_cons (pe_op op_sub (pe_callB call_len_str (by rfl) z_len PySem.boot_len (pa_cons (pv 2) pa_nil)) (pe_bm PySem.F.plainAttrs_str PySem.F.slot_str_rfind PySem.F.type_str_rfind mt_rfind (pv 2) (pa_cons pe_str pa_nil))) pa_nil))))) pa_nil)))
        (pss_cons (ps_set (i := 2) sc_law.nd rfl (.inl rfl) (pe_op op_add_str (pv 2) (pv 7)))
        (pss_one (ps_set (i := 4) sc_law.nd rfl (.inl rfl) (pv 7))))))))
      (pss_cons (ps_set (i := 2) sc_law.nd rfl (.inl rfl) (pe_op op_add_str (pv 2) (pe_ix ix_list (pe_lst (pa_strs (xs := lasts) (by rfl))) (pe_call G__law_pick (hr.mono (by decide)) (by rfl) g__law_pick k__law_pick b__law_pick .nil pass0 (pa_cons (pv 1) (pa_cons pe_int pa_nil))) (fun _ _ => rfl))))
      (pss_cons (ps_expr (pe_bm PySem.F.plainAttrs_list PySem.F.slot_list_append PySem.F.type_list_append mt_append (pv 3) (pa_cons (pe_tup (pa_cons pe_str (pa_cons pe_str (pa_cons (pe_op op_add (pe_bm PySem.F.plainAttrs_str PySem.F.slot_str_count PySem.F.type_str_count mt_count (pv 2) (pa_cons pe_str pa_nil)) pe_int) (pa_cons (pe_op op_sub (pe_callB call_len_str (by rfl) z_len PySem.boot_len (pa_cons (pv 2) pa_nil)) (pe_bm PySem.F.plainAttrs_str PySem.F.slot_str_rfind PySem.F.type_str_rfind mt_rfind (pv 2) (pa_cons pe_str pa_nil))) pa_nil))))) pa_nil)))
      (pss_cons (ps_set (i := 8) sc_law.nd rfl (.inl rfl) (pe_call G_tokens (hr.mono (by decide)) (by rfl) g_tokens k_tokens b_tokens .nil pass0 (pa_cons (pv 2) pa_nil)))
      (pss_cons (ps_if (PW.pt (pw_or (pt_not (pt_val (pe_callB call_isi (by rfl) z_isinstance (by decide +kernel) (pa_cons (pv 8) (pa_cons (pe_bltn (v := .ty "list") (by rfl) z_list (by decide +kernel) rfl) pa_nil))))) (pw_or1 (pt_cmpR (op_neD hr.units) (pv 8) (pv 3) (nomark _)))))
        (pss_one (ps_ret pe_bl))
        pss_nil)
      (pss_one (ps_ret (pe_and (pe_cmpR (op_eqD hr.units) (pe_glob rfl c_KEYWORDS rv_ref) (pe_callTy call_tuple_of (by rfl) z_tuple (by decide +kernel) (pa_cons (pe_call0 G__law_keywords (hr.mono (by decide)) (by rfl) g__law_keywords k__law_keywords b__law_keywords .nil pass0) pa_nil)) (nomark _)) (pe_one (pe_cmpR (op_eqD hr.units) (pe_call G_tokens (hr.mono (by decide)) (by rfl) g_tokens k_tokens b_tokens .nil pass0 (pa_cons pe_str pa_nil)) (pe_lst (pa_cons (pe_tup (pa_cons pe_str (pa_cons pe_str (pa_cons pe_int (pa_cons pe_int pa_nil))))) pa_nil)) (nomark _))))))))))))))), ?_⟩
    -- draws = _law_stream(script, 300)
    refine ⟨_, rfl, a, ns, 300, rfl, hS, hns, by decide, fun d r row H1 hrow _ _ _ D1 => ?_⟩
    -- text = [..][_law_pick(draws, 5)]
    refine ⟨by decide, fun p1 np1 => ?_⟩
    have D2 := D1.same (same_upd (o := .lst (begins.map V.str)) np1)
    refine ⟨_, rfl, d, r, 0, _, row, 5, rfl, D2, by decide, fun n1 hn1 => ?_⟩
    obtain ⟨x1, hx1, ax1⟩ := pick_str (xs := begins) hn1
    have np1d : p1 ≠ d := fun e => by rw [e, D1.d] at np1; cases np1
    refine ⟨p1, _, _, .str x1, rfl, rfl, SqL.of (by rw [upd_ne np1d, upd_same]), ax1, ?_⟩
    have D3 := D2.next
    -- due = []; last = "("
    refine ⟨Nat.zero_le _, fun qq nqq => ?_⟩
    have D4 := D3.same (same_upd (o := .lst []) nqq)
    have I4 : Inn _ d r qq _ row [] [] := ⟨⟨_, D4⟩, upd_same, .nil, fun e => by rw [← e, D3.r] at nqq; cases nqq⟩
    have g2 : ∀ {H' : Hp} {a' sd : Int}, Draws H' d r a' sd row → DGet H' d (.str "row") (some (.ref r)) := fun D => by
      have := DGet.k (k := Sum.inr ("row" : Str)) D.d; rwa [dkv_row] at this
    refine ⟨_, rfl, d, _, rfl, g2 D4, r, _, rfl, .inl (SqL.of D4.r), _, _, rfl, rfl, ⟨by decide, by decide⟩, _, _, rfl, rfl, _, _, rfl, ?_⟩
    rw [List.length_map]
    generalize hn0 : (if 1 + (row.length : Int) / 3 < 120 then 1 + (row.length : Int) / 3 else (120 : Int)) = n0
    have b0 : 0 ≤ n0 := by split at hn0 <;> omega
    have b1 : n0 ≤ 120 := by split at hn0 <;> omega
    have e1 : S (cd x1) = x1 := S_cd x1
    refine ⟨n0, rfl, by omega, by omega, for_range (n := n0.toNat) (fun i σ H2 => ∃ (t : List Nat) (D : List Tk) (last : Str) (ps : List Addr) (y5 y6 y7 : Option V), σ = [some (.ref a), some (.ref d), some (.str (S t)), some (.ref qq), some (.str last), y5, y6, y7, none] ∧
        Inn H2 d r qq ((row.length : Nat) : Int) row ps D ∧ Good t D last ∧ (∀ x ∈ D, strsOk x) ∧ D.length ≤ i ∧ t.length ≤ 30 + 70 * i ∧ (i = 0 → last ∈ sgB)) ?_ ?_ ?_⟩
    · refine ⟨cd x1, [], "(", [], none, none, none, ?_, I4, Good.start hx1, by simp, Nat.le_refl _, (begins_ok x1 hx1).2, fun _ => by decide +kernel⟩
      rw [e1]; rfl
    · -- one turn
      rintro i σ H2 hi ⟨t, D, last, ps, y5, y6, y7, rfl, I, g, hso, hDl, htl, hlast⟩
      have hi120 : i < 120 := by omega
      have ht0 : t.length ≤ 9000 := by omega
      obtain ⟨a2, A2⟩ := I.dr
      refine ⟨_, rfl, d, r, a2, _, row, rfl, A2, fun p k x H3 hkx l3 np hp => ?_⟩
      have I3 := I.later l3
      refine ⟨p, _, rfl, SqT.of hp, rfl, .str k, _, rfl, .str x, _, rfl, rfl, ?_⟩
      have hxl := words_len hkx
      have hxs : (x : Str).length = (cd x).length := by simp [cd, Str.length]
      -- behind the if
      refine ⟨fun σ' H' => ∃ t' : List Nat, σ' = [some (.ref a), some (.ref d), some (.str (S t')), some (.ref qq), some (.str last), some (.int (0 + (i : Int))), some (.str k), some (.str x), none] ∧
        Inn H' d r qq ((row.length : Nat) : Int) row ps D ∧ Good (t' ++ cd x) (D ++ [(k, x, rowOf t', colOf t')]) x ∧ t'.length ≤ t.length + 60, ?_, ?_⟩
      · -- the if
        have sepd : ∀ H4, Inn H4 d r qq ((row.length : Nat) : Int) row ps D → (i = 0 → last ∈ sgB ∨ x ∈ sgB) → tIfS (tTest (tOp (rI0 fun i j => .bl (decide (j < i))) (tVar 5) (tC (.int 0))))
            (tAsg (tOp (fun x y H Q => ∃ i j, x = .str i ∧ y = .str j ∧ i.length + j.length ≤ sizeLine ∧ Q (.str (i ++ j)) H) (tVar 2) (tCall sp__law_between [] E0 (tCons (tVar 1) tNil))) (gName 2)) tNext
            { nx := fun σ' H' => ∃ t' : List Nat, σ' = [some (.ref a), some (.ref d), some (.str (S t')), some (.ref qq), some (.str last), some (.int (0 + (i : Int))), some (.str k), some (.str x), none] ∧
                Inn H' d r qq ((row.length : Nat) : Int) row ps D ∧ Good (t' ++ cd x) (D ++ [(k, x, rowOf t', colOf t')]) x ∧ t'.length ≤ t.length + 60, rt := Q }
            [some (.ref a), some (.ref d), some (.str (S t)), some (.ref qq), some (.str last), some (.int (0 + (i : Int))), some (.str k), some (.str x), none] H4 := by
          intro H4 I4 h0
          refine ⟨_, rfl, _, _, rfl, rfl, _, rfl, ite2 (fun c => ?_) (fun c => ?_)⟩
          · obtain ⟨a4, A4⟩ := I4.dr
            refine ⟨_, rfl, _, rfl, d, r, a4, _, row, rfl, A4, fun y z H5 hy hz l5 => ?_⟩
            have hyz := fs_len hy hz
            have eyz : (y ++ z : Str) = S (cd y ++ cd z) := by rw [← S_app, S_cd, S_cd]
            refine ⟨_, _, rfl, rfl, ?_, t ++ (cd y ++ cd z), ?_, I4.later l5, Good.sep g hy hz hkx, ?_⟩
            · rw [eyz, S_len, S_len]
              have : (cd y ++ cd z).length ≤ 60 := by simp [cd]; exact hyz
              exact Nat.le_trans (by omega : _ ≤ 9060) (by decide)
            · rw [eyz, S_app]; rfl
            · have : (cd y ++ cd z).length ≤ 60 := by simp [cd]; exact hyz
              rw [List.length_append]; omega
          · have hi0 : i = 0 := by
              have : ¬ ((0 : Int) < 0 + (i : Int)) := fun h => c (decide_eq_true h)
              omega
            exact ⟨t, rfl, I4, Good.word g hkx (h0 hi0), by omega⟩
        have plain : ∀ H4, Inn H4 d r qq ((row.length : Nat) : Int) row ps D → (last ∈ sgB ∨ x ∈ sgB) → ∃ t' : List Nat, ([some (.ref a), some (.ref d), some (.str (S t)), some (.ref qq), some (.str last), some (.int (0 + (i : Int))), some (.str k), some (.str x), none] : L2.St) = [some (.ref a), some (.ref d), some (.str (S t')), some (.ref qq), some (.str last), some (.int (0 + (i : Int))), some (.str k), some (.str x), none] ∧
                Inn H4 d r qq ((row.length : Nat) : Int) row ps D ∧ Good (t' ++ cd x) (D ++ [(k, x, rowOf t', colOf t')]) x ∧ t'.length ≤ t.length + 60 := fun H4 I4 h0 => ⟨t, rfl, I4, Good.word g hkx h0, by omega⟩
        refine ⟨_, rfl, last, rfl, fun H4 s4 => ⟨_, rfl, ite2 (fun c => ?_) (fun c => ?_)⟩⟩
        · have hl : last ∈ sgB := of_decide_eq_true c
          refine iteF ?_
          have I4 := I3.same s4
          obtain ⟨a4, A4⟩ := I4.dr
          refine ⟨_, rfl, d, r, a4, _, row, 3, rfl, A4, by decide, fun n hn => ?_⟩
          have I5 := I4.later (Later.pick (H := H4) A4 fun b o _ e => e)
          refine ⟨rfl, _, rfl, ite2 (fun c => sepd _ I5 fun _ => .inl hl) (fun c => plain _ I5 (.inl hl))⟩
        · refine ⟨_, rfl, x, rfl, fun H5 s5 => ⟨_, rfl, ?_⟩⟩
          have I4 := (I3.same s4).same s5
          by_cases hx : x ∈ sgB
          · rw [decide_eq_true hx]
            refine iteF ?_
            obtain ⟨a4, A4⟩ := I4.dr
            refine ⟨_, rfl, d, r, a4, _, row, 3, rfl, A4, by decide, fun n hn => ?_⟩
            have I5 := I4.later (Later.pick (H := H5) A4 fun b o _ e => e)
            refine ⟨rfl, _, rfl, ite2 (fun c => sepd _ I5 fun _ => .inr hx) (fun c => plain _ I5 (.inr hx))⟩
          · rw [decide_eq_false hx]
            refine iteT ?_
            exact iteT (sepd _ I4 fun h => .inl (hlast h))
      · -- due.append(..); text = text + word; last = word
        rintro σ' H' ⟨t', rfl, I5, g5, ht5⟩
        have hl5 : (S t').length ≤ sizeLine := by rw [S_len]; exact Nat.le_trans (by omega : t'.length ≤ 10000) (by decide)
        have ps5 : ps.length = D.length := Paired.length I5.tl
        refine ⟨_, rfl, .inl ⟨rfl, _, SqL.of I5.qq⟩, _, rfl, _, rfl, _, rfl, rfl, _, _, rfl, rfl, _, _, rfl, rfl, _, rfl, _, rfl, hl5, _, rfl, rfl, _, _, rfl, rfl, _, _, rfl, rfl, four, fun p5 np5 => ?_⟩
        have nqp : qq ≠ p5 := ne_of_none I5.qq np5
        refine ⟨qq, _, _, rfl, rfl, by rw [upd_ne nqp]; exact I5.qq, ?_, ?_⟩
        · rw [List.length_map, ps5]; exact small1000 (by omega)
        have I6 := due_get (t := (k, x, rowOf t', colOf t')) I5 np5
        have er := row_int t'
        have ec := col_int t'
        refine ⟨_, rfl, _, rfl, _, _, rfl, rfl, ?_, _, rfl, t' ++ cd x, D ++ [(k, x, rowOf t', colOf t')], x, ps ++ [p5], some (.int (0 + (i : Int))), some (.str k), some (.str x), ?_, ?_, g5, ?_, ?_, ?_, ?_⟩
        · rw [S_len, hxs]; exact Nat.le_trans (by omega : _ ≤ 10010) (by decide)
        · rw [← S_app, S_cd]; rfl
        · rw [← er, ← ec] at I6 ⊢
          exact I6
        · intro z hz
          rcases List.mem_append.mp hz with hz | hz
          · exact hso z hz
          · rw [List.mem_singleton.mp hz]
            exact words_strOk _ hkx
        · rw [List.length_append]; simp; omega
        · rw [List.length_append]; omega
        · intro h; omega
    · -- behind the loop
      rintro σ H2 ⟨t, D, last, ps, y5, y6, y7, rfl, I, g, hso, hDl, htl, hlast⟩
      have ht0 : t.length ≤ 9000 := by omega
      -- text = text + [..][_law_pick(draws, 5)]
      refine ⟨_, rfl, by decide, fun p2 np2 => ?_⟩
      have I2 := I.same (same_upd (o := .lst (lasts.map V.str)) np2)
      obtain ⟨a2, A2⟩ := I2.dr
      refine ⟨_, rfl, d, r, a2, _, row, 5, rfl, A2, by decide, fun n hn => ?_⟩
      obtain ⟨x, hx, ax⟩ := pick_str (xs := lasts) hn
      have np2d : p2 ≠ d := ne_of upd_same A2.d (by intro z; cases z)
      have I3 := I2.later (Later.pick (H := upd H2 p2 (.lst (lasts.map V.str))) A2 fun b o _ e => e)
      have hxl := (lasts_ok x hx).2.1
      have hxs : (x : Str).length = (cd x).length := by simp [cd, Str.length]
      refine ⟨p2, _, _, .str x, rfl, rfl, SqL.of (by rw [upd_ne np2d, upd_same]), ax, _, _, rfl, rfl, ?_, ?_⟩
      · rw [S_len, hxs]; exact Nat.le_trans (by omega : _ ≤ 10010) (by decide)
      have et : S t ++ x = S (t ++ cd x) := by rw [← S_app, S_cd]
      rw [et]
      have tks := g.fin hx
      generalize ht' : t ++ cd x = t' at tks
      have hl' : t'.length ≤ 10000 := by rw [← ht', List.length_append]; omega
      have hl5 : (S t').length ≤ sizeLine := by rw [S_len]; exact Nat.le_trans hl' (by decide)
      have ps5 : ps.length = D.length := Paired.length I3.tl
      -- due.append(("end", ..))
      refine ⟨_, rfl, .inl ⟨rfl, _, SqL.of I3.qq⟩, _, rfl, rfl, _, _, rfl, rfl, _, _, rfl, rfl, _, rfl, _, rfl, hl5, _, rfl, rfl, _, _, rfl, rfl, _, _, rfl, rfl, four, fun p5 np5 => ?_⟩
      have nqp : qq ≠ p5 := ne_of_none I3.qq np5
      refine ⟨qq, _, _, rfl, rfl, by rw [upd_ne nqp]; exact I3.qq, ?_, ?_⟩
      · rw [List.length_map, ps5]; exact small1000 (by omega)
      have I6 := due_get (t := (("end", "", rowOf t', colOf t') : Tk)) I3 np5
      rw [← row_int t', ← col_int t'] at I6
      -- actual = tokens(text)
      refine ⟨_, rfl, t', _, rfl, by omega, tks, fun H7 pa pps s7 npa hpa htl7 => ?_⟩
      have I7 := I6.same s7
      have hso' : ∀ x ∈ D ++ [(("end", "", rowOf t', colOf t') : Tk)], strsOk x := by
        intro z hz
        rcases List.mem_append.mp hz with hz | hz
        · exact hso z hz
        · rw [List.mem_singleton.mp hz]
          exact end_strOk _ _
      have dA : Dp K H7 (.ref pa) (.list ((D ++ [(("end", "", rowOf t', colOf t') : Tk)]).map tkD)) := .lst (SqL.of hpa) (dp_toks htl7)
      have tl8 := I7.tl
      rw [row_int t', col_int t'] at tl8
      have dB : Dp K H7 (.ref qq) (.list ((D ++ [(("end", "", rowOf t', colOf t') : Tk)]).map tkD)) := .lst (SqL.of I7.qq) (dp_toks tl8)
      have sh := shaped_toks hso'
      have eq := eqv_toks hso'
      -- if not isinstance(actual, list) or actual != due
      refine ⟨_, rfl, _, _, _, _, true, rfl, .ty "list", .base (.lst hpa), kit_ty (by decide +kernel), _, rfl, iteF ?_⟩
      refine ⟨_, rfl, _, rfl, _, _, dA, dB, sh, sh, _, rfl, ?_⟩
      rw [eq]
      refine iteF ?_
      -- the return
      refine ⟨rfl, fun p8 H8 s8 np8 hp8 => ⟨p8, _, rfl, .inl ⟨SqL.of hp8, fun p9 np9 => ?_⟩⟩⟩
      have sKW : SeqAt.shaped (.tuple (kws.map PyData.str)) = true := by decide +kernel
      have dpS : ∀ {H : Hp} (xs : List Str), DpAll K H (xs.map V.str) (xs.map PyData.str) := fun {H} xs => by
        induction xs with
        | nil => exact .nil
        | cons y r ih => exact .cons (.str y) ih
      refine ⟨_, _, .tup (hKW _) (dpS kws), .tup (SqT.of upd_same) (dpS kws), sKW, sKW, _, rfl, ?_⟩
      rw [show PyData.eqv (.tuple (kws.map PyData.str)) (.tuple (kws.map PyData.str)) = true by decide +kernel]
      refine iteT ?_
      refine ⟨[], _, rfl, by decide, Toks.fin [], fun H10 p10 pps10 s10 np10 hp10 tl10 => ?_⟩
      refine ⟨four, fun p11 np11 => ⟨by show 1 ≤ sizeLine; decide, fun p12 np12 => ?_⟩⟩
      have n1 : p11 ≠ p12 := fun e => by rw [← e, upd_same] at np12; cases np12
      have s11 := same_upd (H := H10) (o := .tup [.str "end", .str "", .int 1, .int 1]) np11
      have s12 := same_upd (o := .lst [.ref p11]) np12
      have e10 : Dp K _ (.ref p10) (.list ([(("end", "", rowOf [], colOf []) : Tk)].map tkD)) := .lst (SqL.of (s12 _ _ (s11 _ _ hp10))) (dp_toks ((tl10.same fun b xs e => s11 _ _ e).same fun b xs e => s12 _ _ e))
      have e12 : Dp K _ (.ref p12) (.list ([(("end", "", rowOf [], colOf []) : Tk)].map tkD)) := .lst (SqL.of upd_same) (.cons (dp_tok (t := (("end", "", rowOf [], colOf []) : Tk)) (s12 _ _ upd_same)) .nil)
      have hsoE : ∀ x ∈ [(("end", "", rowOf [], colOf []) : Tk)], strsOk x := by
        intro z hz
        rw [List.mem_singleton.mp hz]
        exact ⟨by decide +kernel, by decide +kernel⟩
      refine ⟨_, _, e10, e12, shaped_toks hsoE, shaped_toks hsoE, ?_⟩
      rw [eqv_toks hsoE]
      exact q _
end
end Ow
namespace Ow
open PySem PySem.Spec PyProof.Rows L2
section
variable {K : PySem.W.Frag} {h : Heap} {mg : Str → Option Value}
/-- what k_is tells of a def -/
structure DefK (K : PySem.W.Frag) (x : Str) (st : Stmt) (f : Addr) (oc kV dc pm cd ct : Value) (od an : Option Addr) (sl : Array (Option Value)) : Prop where
  a : PySem.W.nsIn K mainGlobals x = some (some (.ref f))
  l : K.lookup f = some ⟨oc, od, .func (PySem.W.fnOf x x (defArgs st) (defBody st) (defScope st) .none kV dc pm an cd ct), sl⟩
  c : PySem.W.codeIn K cd x = true
  k : PySem.W.keepIn K (.ref f) = true
theorem DefK.here {x : Str} {st : Stmt} {f : Addr} {oc kV dc pm cd ct : Value} {od an : Option Addr} {sl : Array (Option Value)} {ps : List Str} (D : DefK K x st f oc kV dc pm cd ct od an sl) (X : K.In h) (G : h.Ns mainGlobals mg)
    (hb : ∀ (kV doc pm : Value) (an : Option Addr) (cdv ct : Value) (us : List Value), us.length = ps.length → bindArgs (PySem.W.fnOf x x (defArgs st) (defBody st) (defScope st) .none kV doc pm an cdv ct) ⟨us, []⟩ = pure (ps.zip us)) : Here K mg x st ps := by
  have F := fun_mk (st := st) D.l D.c D.k
  exact ⟨f, _, F, PySem.W.mg_of X G D.a, F.binds hb⟩
theorem gstr_of {x z z' : Str} {t : Tok} (X : K.In h) (G : h.Ns mainGlobals mg) (a : PySem.W.nsIn K mainGlobals x = some (some (.str z t))) (e : z = z') : GStr mg x z' := by
  subst e; exact ⟨t, PySem.W.mg_of X G a⟩
theorem gint_of {x : Str} {n : Int} {t : Tok} (X : K.In h) (G : h.Ns mainGlobals mg) (a : PySem.W.nsIn K mainGlobals x = some (some (.int n t))) : GInt mg x n := ⟨t, PySem.W.mg_of X G a⟩
theorem rel_abs {u : Value} {x : V} (e : absV u = some x) : RelV x u := by
  cases u <;> simp [absV] at e <;> subst e <;> first | rfl | exact ⟨_, rfl⟩
theorem vals_abs : ∀ {us : List Value} {xs : List V}, us.map absV = xs.map some → Vals xs us
  | [], [], _ => .nil
  | [], _ :: _, e => by cases e
  | _ :: _, [], e => by cases e
  | u :: us, x :: xs, e => by
    rw [List.map_cons, List.map_cons] at e
    injection e with e1 e2
    exact .cons (rel_abs e1) (vals_abs e2)
theorem gtup_of {x : Str} {p : Addr} {dd : Option Addr} {its : Array Value} {n : Nat} {sl : Array (Option Value)} {xs : List V} (X : K.In h) (G : h.Ns mainGlobals mg) (a : PySem.W.nsIn K mainGlobals x = some (some (.ref p)))
    (l : K.lookup p = some ⟨.type "tuple", dd, .seq its n, sl⟩) (e : its.toList.map absV = xs.map some) (hz : decide (xs.length ≤ sizeLine) = true) : GTup K mg x xs := by
  have hv := vals_abs e
  refine ⟨p, PySem.W.mg_of X G a, fun H => .inr ⟨_, its, n, l, rfl, rfl, ?_, hv⟩⟩
  have h1 := Paired.length hv
  have h2 := of_decide_eq_true hz
  rw [← Array.length_toList]
  omega
end
theorem all_mk {l : PySem.W.OpenLaw} {w : World} {K : PySem.W.Frag} {h : Heap} {mg : Str → Option Value} {fa : Addr} (X : K.In h) (G : h.Ns mainGlobals mg) (hfa : mg "law" = some (.ref fa))
    {g1 g2 g3 g4 g5 g6 g7 g8 g9 g10 g11 g12 g13 g14 : Addr}
    {oc1 kV1 dc1 pm1 cd1 ct1 oc2 kV2 dc2 pm2 cd2 ct2 oc3 kV3 dc3 pm3 cd3 ct3 oc4 kV4 dc4 pm4 cd4 ct4 oc5 kV5 dc5 pm5 cd5 ct5 oc6 kV6 dc6 pm6 cd6 ct6 oc7 kV7 dc7 pm7 cd7 ct7 : Value}
    {oc8 kV8 dc8 pm8 cd8 ct8 oc9 kV9 dc9 pm9 cd9 ct9 oc10 kV10 dc10 pm10 cd10 ct10 oc11 kV11 dc11 pm11 cd11 ct11 oc12 kV12 dc12 pm12 cd12 ct12 oc13 kV13 dc13 pm13 cd13 ct13 oc14 kV14 dc14 pm14 cd14 ct14 : Value}
    {od1 an1 od2 an2 od3 an3 od4 an4 od5 an5 od6 an6 od7 an7 od8 an8 od9 an9 od10 an10 od11 an11 od12 an12 od13 an13 od14 an14 : Option Addr} {sl1 sl2 sl3 sl4 sl5 sl6 sl7 sl8 sl9 sl10 sl11 sl12 sl13 sl14 : Array (Option Value)}
    (d1 : DefK K "tokens" s_tokens g1 oc1 kV1 dc1 pm1 cd1 ct1 od1 an1 sl1) (d2 : DefK K "comment_end" s_comment_end g2 oc2 kV2 dc2 pm2 cd2 ct2 od2 an2 sl2) (d3 : DefK K "token_at" s_token_at g3 oc3 kV3 dc3 pm3 cd3 ct3 od3 an3 sl3) (d4 : DefK K "word_at" s_word_at g4 oc4 kV4 dc4 pm4 cd4 ct4 od4 an4 sl4)
    (d5 : DefK K "is_within_word" s_is_within_word g5 oc5 kV5 dc5 pm5 cd5 ct5 od5 an5 sl5) (d6 : DefK K "is_number" s_is_number g6 oc6 kV6 dc6 pm6 cd6 ct6 od6 an6 sl6) (d7 : DefK K "_law_mix" s__law_mix g7 oc7 kV7 dc7 pm7 cd7 ct7 od7 an7 sl7) (d8 : DefK K "_law_stream" s__law_stream g8 oc8 kV8 dc8 pm8 cd8 ct8 od8 an8 sl8)
    (d9 : DefK K "_law_pick" s__law_pick g9 oc9 kV9 dc9 pm9 cd9 ct9 od9 an9 sl9) (d10 : DefK K "_law_keywords" s__law_keywords g10 oc10 kV10 dc10 pm10 cd10 ct10 od10 an10 sl10) (d11 : DefK K "_law_word" s__law_word g11 oc11 kV11 dc11 pm11 cd11 ct11 od11 an11 sl11) (d12 : DefK K "_law_alone" s__law_alone g12 oc12 kV12 dc12 pm12 cd12 ct12 od12 an12 sl12)
    (d13 : DefK K "_law_between" s__law_between g13 oc13 kV13 dc13 pm13 cd13 ct13 od13 an13 sl13) (d14 : DefK K "law" s_law g14 oc14 kV14 dc14 pm14 cd14 ct14 od14 an14 sl14)
    {tL tD tO tGL tGW : Tok} {zL zD zO : Str} (aO : PySem.W.nsIn K mainGlobals "SHORT_SIGNS" = some (some (.str zO tO))) (eO : zO = S shorts) (aL : PySem.W.nsIn K mainGlobals "LETTERS" = some (some (.str zL tL))) (eL : zL = S letters) (aD : PySem.W.nsIn K mainGlobals "DIGITS" = some (some (.str zD tD))) (eD : zD = S digits)
    (aGL : PySem.W.nsIn K mainGlobals "GREATEST_LENGTH" = some (some (.int 10 tGL))) (aGW : PySem.W.nsIn K mainGlobals "GREATEST_WORD" = some (some (.int 4294967295 tGW)))
    {pK pS : Addr} {ddK ddS : Option Addr} {itK itS : Array Value} {nK nS : Nat} {slK slS : Array (Option Value)} (aK : PySem.W.nsIn K mainGlobals "KEYWORDS" = some (some (.ref pK))) (lK : K.lookup pK = some ⟨.type "tuple", ddK, .seq itK nK, slK⟩) (eK : itK.toList.map absV = (kws.map V.str).map some)
    (aS : PySem.W.nsIn K mainGlobals "LONG_SIGNS" = some (some (.ref pS))) (lS : K.lookup pS = some ⟨.type "tuple", ddS, .seq itS nS, slS⟩) (eS : itS.toList.map absV = (longs.map V.str).map some)
    (z1 : PySem.W.nsIn K mainGlobals "len" = some none) (z2 : PySem.W.nsIn K mainGlobals "int" = some none) (z3 : PySem.W.nsIn K mainGlobals "min" = some none) (z4 : PySem.W.nsIn K mainGlobals "range" = some none) (z5 : PySem.W.nsIn K mainGlobals "isinstance" = some none) (z6 : PySem.W.nsIn K mainGlobals "list" = some none) (z7 : PySem.W.nsIn K mainGlobals "tuple" = some none) :
    ∃ fd : FuncData, (∀ (s : Shared) (v : Value), BindsTo s fd ⟨[v], []⟩ [("script", v)]) ∧ ∀ base : Heap, K.In base → base.Ns mainGlobals mg → FnOk l.prog w K mg base CX0 5 fa fd ["script"] (spLaw K) := by
  have e := hfa.symm.trans (PySem.W.mg_of X G d14.a)
  cases e
  have h1 := d1.here X G (ps := ["text"]) fun _ _ _ _ _ _ us hl => match us, hl with | [_], _ => rfl
  have h2 := d2.here X G (ps := ["text", "at"]) fun _ _ _ _ _ _ us hl => match us, hl with | [_, _], _ => rfl
  have h3 := d3.here X G (ps := ["text", "at", "row", "column"]) fun _ _ _ _ _ _ us hl => match us, hl with | [_, _, _, _], _ => rfl
  have h4 := d4.here X G (ps := ["text", "at"]) fun _ _ _ _ _ _ us hl => match us, hl with | [_, _], _ => rfl
  have h5 := d5.here X G (ps := ["char"]) fun _ _ _ _ _ _ us hl => match us, hl with | [_], _ => rfl
  have h6 := d6.here X G (ps := ["word"]) fun _ _ _ _ _ _ us hl => match us, hl with | [_], _ => rfl
  have h7 := d7.here X G (ps := ["cell", "k"]) fun _ _ _ _ _ _ us hl => match us, hl with | [_, _], _ => rfl
  have h8 := d8.here X G (ps := ["script", "most"]) fun _ _ _ _ _ _ us hl => match us, hl with | [_, _], _ => rfl
  have h9 := d9.here X G (ps := ["draws", "many"]) fun _ _ _ _ _ _ us hl => match us, hl with | [_, _], _ => rfl
  have h10 := d10.here X G (ps := []) fun _ _ _ _ _ _ us hl => match us, hl with | [], _ => rfl
  have h11 := d11.here X G (ps := ["draws"]) fun _ _ _ _ _ _ us hl => match us, hl with | [_], _ => rfl
  have h12 := d12.here X G (ps := ["text"]) fun _ _ _ _ _ _ us hl => match us, hl with | [_], _ => rfl
  have h13 := d13.here X G (ps := ["draws"]) fun _ _ _ _ _ _ us hl => match us, hl with | [_], _ => rfl
  have F14 := fun_mk (st := s_law) d14.l d14.c d14.k
  have m_len := PySem.W.mg_none_of X G z1
  have m_int := PySem.W.mg_none_of X G z2
  have m_min := PySem.W.mg_none_of X G z3
  have m_range := PySem.W.mg_none_of X G z4
  have m_isinstance := PySem.W.mg_none_of X G z5
  have m_list := PySem.W.mg_none_of X G z6
  have m_tuple := PySem.W.mg_none_of X G z7
  have gL := gstr_of X G aL eL
  have gD := gstr_of X G aD eD
  have gO := gstr_of X G aO eO
  have gGL := gint_of X G aGL
  have gGW := gint_of X G aGW
  have gK := gtup_of X G aK lK eK (by decide +kernel)
  have gS := gtup_of X G aS lS eS (by decide +kernel)
  refine ⟨PySem.W.fnOf "law" "law" (defArgs s_law) (defBody s_law) (defScope s_law) .none kV14 dc14 pm14 an14 cd14 ct14, fun s v => .of_eq rfl, fun base _ _ => ?_⟩
  have t5 : Has l.prog w K mg base 1 _ _ _ := Has.mk' h5 fun f fd F => ok_is_within_word F gL gD
  have t4 : Has l.prog w K mg base 2 _ _ _ := Has.mk' h4 fun f fd F => ok_word_at F t5 m_len
  have t6 : Has l.prog w K mg base 1 _ _ _ := Has.mk' h6 fun f fd F => ok_is_number F gD gGL gGW m_len m_int
  have t3 : Has l.prog w K mg base 3 _ _ _ := Has.mk' h3 fun f fd F => ok_token_at F gL gD gK gS gO t4 t6
  have t2 : Has l.prog w K mg base 1 _ _ _ := Has.mk' h2 fun f fd F => ok_comment_end F m_len
  have t1 : Has l.prog w K mg base 4 _ _ _ := Has.mk' h1 fun f fd F => ok_tokens F t2 t3 m_len
  have t7 : Has l.prog w K mg base 1 _ _ _ := Has.mk' h7 fun f fd F => ok__law_mix F m_int
  have t8 : Has l.prog w K mg base 2 _ _ _ := Has.mk' h8 fun f fd F => ok__law_stream F t7 m_len m_int m_min m_range
  have t9 : Has l.prog w K mg base 2 _ _ _ := Has.mk' h9 fun f fd F => ok__law_pick F t7 m_len m_int
  have t10 : Has l.prog w K mg base 1 _ _ _ := Has.mk' h10 fun f fd F => ok__law_keywords F
  have t11 : Has l.prog w K mg base 3 _ _ _ := Has.mk' h11 fun f fd F => ok__law_word F t9 t10
  have t12 : Has l.prog w K mg base 1 _ _ _ := Has.mk' h12 fun f fd F => ok__law_alone F
  have t13 : Has l.prog w K mg base 3 _ _ _ := Has.mk' h13 fun f fd F => ok__law_between F t9
  exact ok_law F14 gK t8 t1 t9 t11 t10 t12 t13 m_range m_min m_len m_isinstance m_list m_tuple
end Ow
open PySem PySem.W PyProof.Rows
local macro_rules | `(tactic| walk_at "defk") => `(tactic| (refine' Ow.DefK.mk ?a ?l ?c ?k; (case a => k_is); (case l => k_is); (case c => k_is); (case k => k_is)))
set_option maxRecDepth 100000 in
set_option maxHeartbeats 0 in
theorem PySem.Challenge.cw_oneowner_k00_tokens_of_a_program_holds : PySem.Challenge.rw_oneowner_k00_tokens_of_a_program.Holds := by
  w_on; o_law; k_head; (case hw => w_witness2)
  k_fill
  refine L2.walk_of (l := PySem.Challenge.rw_oneowner_k00_tokens_of_a_program) (n := 63) (k := 5) (x := "script") (CX := fun _ => L2.CX0) (sp := fun w => Ow.spLaw _) rfl (by decide) rfl ⟨rfl, by decide, by decide⟩ (fun w h Y => PySem.W.kIn_of Y) ?F (fun _ _ a ns hl _ hS => ⟨a, ns, rfl, hS, hl, fun _ => rfl⟩) (fun _ _ _ _ _ h => h)
  case F =>
    intro w mg fa h KX G hmg
    refine' Ow.all_mk KX G hmg ?d1 ?d2 ?d3 ?d4 ?d5 ?d6 ?d7 ?d8 ?d9 ?d10 ?d11 ?d12 ?d13 ?d14 ?aO ?eO ?aL ?eL ?aD ?eD ?aGL ?aGW ?aK ?lK ?eK ?aS ?lS ?eS ?z1 ?z2 ?z3 ?z4 ?z5 ?z6 ?z7
    (case d1 => walk_at "defk"); (case d2 => walk_at "defk"); (case d3 => walk_at "defk"); (case d4 => walk_at "defk"); (case d5 => walk_at "defk"); (case d6 => walk_at "defk"); (case d7 => walk_at "defk")
    (case d8 => walk_at "defk"); (case d9 => walk_at "defk"); (case d10 => walk_at "defk"); (case d11 => walk_at "defk"); (case d12 => walk_at "defk"); (case d13 => walk_at "defk"); (case d14 => walk_at "defk")
    (case aO => k_is); (case eO => decide +kernel); (case aL => k_is); (case eL => decide +kernel); (case aD => k_is); (case eD => decide +kernel); (case aGL => k_is); (case aGW => k_is)
    (case aK => k_is); (case lK => k_is); (case eK => rfl); (case aS => k_is); (case lS => k_is); (case eS => rfl)
    (case z1 => k_is); (case z2 => k_is); (case z3 => k_is); (case z4 => k_is); (case z5 => k_is); (case z6 => k_is); (case z7 => k_is)
