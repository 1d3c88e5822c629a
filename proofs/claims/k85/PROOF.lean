import PyProof.Rows.All
import Wide.All
import OpenK.AllK
import Wide.FinOn
import HandS.ForMost
import HandS.StrMore
import HandS.IsInst
import HandS.Codes
import HandS.ForExc
import HandS.Flow
import HandS.SortInts
import HandS.Star
import HandS.TupAny
import HandS.TupLe
import HandS.TupLen
import HandS.TupMul
import HandS.Walk
import HandS.Wide
import HandS.Zip
import PyProof.NeData
import PyProof.P3Eq
import HandS.Conv
import HandS.SortOrd
import HandS.SortRule
import KE.KSortTup
import PyProof.Rows.SortKeyStr
import HandS.More
import KE.KDictZip
import KE.KDictList
import HandS.ExcValue
import HandS.Small
import HandS.Flow
import HandS.DictTup
import PySem.Challenge.RW_oneowner_k85_whole_heaps_by_their_words
set_option Elab.async false
set_option linter.all false
set_option maxRecDepth 100000
set_option maxHeartbeats 4000000
namespace Dz
open PySem PySem.Spec PyProof.Rows L2
/-- data without identity: what is never changed -/
inductive P where
  | non | bl (b : Bool) | int (i : Int) | str (x : Str) | lst (xs : List P) | tup (xs : List P)
/-- a value: data, an object of the store, a dict that is not changed any more -/
inductive D where
  | p (x : P) | fz (xs : List P) | kt (xs : List P) | loc (n : Nat) | dic (kvs : List (Key × P)) | dct (kvs : List (List Key × P))
/-- an object of the store -/
inductive MO where
  | lst (xs : List D) | tup (xs : List D) | dic (kvs : List (Key × D)) | dct (kvs : List (List Key × D)) | ins (C : Str) (fs : List (Str × D))
/-- what a local list or dict holds that no other thing knows -/
inductive Lin where
  | lst (xs : List P) | dic (kvs : List (Key × P)) | dct (kvs : List (List Key × P))
inductive Sl where
  | un | v (d : D) | lin (m : Lin)
structure Sta where
  sl : List Sl
  st : Option (List MO)
inductive Res (α : Type) where
  | ok (a : α) (s : Sta) | ex (c : Str) (fs : List P) | bad
inductive Fl where
  | nx (s : Sta) | ret (d : D) (s : Sta) | brk (s : Sta) | cnt (s : Sta) | ex (c : Str) (fs : List P) | bad
/-- the world: where the store's objects lie, what is never changed -/
structure Wo where
  ρ : List Addr
  I : Addr → Prop
abbrev Ev := Sta → Res D
abbrev Ex := Sta → Fl

mutual
/-- the value v is the data -/
inductive Td (K : PySem.W.Frag) (q : Bool) (H : Hp) (I : Addr → Prop) : P → V → Prop
  | non : Td K q H I .non .non
  | bl (b : Bool) : Td K q H I (.bl b) (.bl b)
  | int (i : Int) : Td K q H I (.int i) (.int i)
  | str (x : Str) : Td K q H I (.str x) (.str x)
  | lst {a : Addr} {xs : List P} {vs : List V} : H a = some (.lst vs) → I a → TdL K q H I xs vs → Td K q H I (.lst xs) (.ref a)
  | tup {a : Addr} {xs : List P} {vs : List V} : H a = some (.tup vs) → TdL K q H I xs vs → Td K q H I (.tup xs) (.ref a)
  | tupK {a : Addr} {xs : List P} {vs : List V} : q = true → (∀ H, SqT K H a vs) → TdL K q H I xs vs → Td K q H I (.tup xs) (.ref a)
inductive TdL (K : PySem.W.Frag) (q : Bool) (H : Hp) (I : Addr → Prop) : List P → List V → Prop
  | nil : TdL K q H I [] []
  | cons {x : P} {xs : List P} {v : V} {vs : List V} : Td K q H I x v → TdL K q H I xs vs → TdL K q H I (x :: xs) (v :: vs)
end
/-- dicts of data -/
inductive TdK (K : PySem.W.Frag) (q : Bool) (H : Hp) (I : Addr → Prop) {κ : Type} : List (κ × P) → List (κ × V) → Prop
  | nil : TdK K q H I [] []
  | cons {k : κ} {x : P} {xs : List (κ × P)} {v : V} {vs : List (κ × V)} : Td K q H I x v → TdK K q H I xs vs → TdK K q H I ((k, x) :: xs) ((k, v) :: vs)
/-- the list at a: known to all, never changed, or an object of the module -/
def FzAt (K : PySem.W.Frag) (H : Hp) (I : Addr → Prop) (a : Addr) (vs : List V) : Prop := (∃ ob, H a = some (.frz ob (.lst vs)) ∧ I a) ∨ ∀ H, SqL K H a vs
theorem FzAt.sq {K : PySem.W.Frag} {H : Hp} {I : Addr → Prop} {a : Addr} {vs : List V} (h : FzAt K H I a vs) : SqL K H a vs := by
  rcases h with ⟨ob, h, _⟩ | h
  · exact .inl (.inr ⟨ob, h⟩)
  · exact h _
/-- the value v is d -/
inductive Vd (K : PySem.W.Frag) (H : Hp) (w : Wo) : D → V → Prop
  | p {x : P} {v : V} : Td K false H w.I x v → Vd K H w (.p x) v
  | fz {a : Addr} {xs : List P} {vs : List V} : FzAt K H w.I a vs → TdL K false H w.I xs vs → Vd K H w (.fz xs) (.ref a)
  | kt {a : Addr} {xs : List P} {vs : List V} : (∀ H, SqT K H a vs) → (∀ H, TdL K true H (fun _ => False) xs vs) → Vd K H w (.kt xs) (.ref a)
  | loc {n : Nat} {a : Addr} : w.ρ[n]? = some a → Vd K H w (.loc n) (.ref a)
  | dic {a : Addr} {kvs : List (Key × P)} {vs : List (Key × V)} : Rd H a (.dK vs) → w.I a → TdK K false H w.I kvs vs → Vd K H w (.dic kvs) (.ref a)
  | dct {a : Addr} {kvs : List (List Key × P)} {vs : List (List Key × V)} : Rd H a (.dT vs) → w.I a → TdK K false H w.I kvs vs → Vd K H w (.dct kvs) (.ref a)
inductive VdL (K : PySem.W.Frag) (H : Hp) (w : Wo) : List D → List V → Prop
  | nil : VdL K H w [] []
  | cons {x : D} {xs : List D} {v : V} {vs : List V} : Vd K H w x v → VdL K H w xs vs → VdL K H w (x :: xs) (v :: vs)
inductive VdK (K : PySem.W.Frag) (H : Hp) (w : Wo) {κ : Type} : List (κ × D) → List (κ × V) → Prop
  | nil : VdK K H w [] []
  | cons {k : κ} {x : D} {xs : List (κ × D)} {v : V} {vs : List (κ × V)} : Vd K H w x v → VdK K H w xs vs → VdK K H w ((k, x) :: xs) ((k, v) :: vs)
/-- an object of the store at its address -/
inductive MOk (K : PySem.W.Frag) (mg : Str → Option Value) (H : Hp) (w : Wo) (a : Addr) : MO → Prop
  | lst {xs : List D} {vs : List V} : H a = some (.lst vs) → VdL K H w xs vs → MOk K mg H w a (.lst xs)
  | tup {xs : List D} {vs : List V} : H a = some (.tup vs) → VdL K H w xs vs → MOk K mg H w a (.tup xs)
  | dic {kvs : List (Key × D)} {vs : List (Key × V)} : H a = some (.dK vs) → VdK K H w kvs vs → MOk K mg H w a (.dic kvs)
  | dct {kvs : List (List Key × D)} {vs : List (List Key × V)} : H a = some (.dT vs) → VdK K H w kvs vs → MOk K mg H w a (.dct kvs)
  | ins {C : Str} {c dx : Addr} {fs : List (Str × D)} {vs : List (Str × V)} : mg C = some (.ref c) → H a = some (.ins c dx vs) → H dx = some (.own a) → VdK K H w fs vs → MOk K mg H w a (.ins C fs)
/-- a local list or dict -/
inductive LOk (K : PySem.W.Frag) (H : Hp) (I : Addr → Prop) (a : Addr) : Lin → Prop
  | lst {xs : List P} {vs : List V} : H a = some (.lst vs) → TdL K false H I xs vs → LOk K H I a (.lst xs)
  | dic {kvs : List (Key × P)} {vs : List (Key × V)} : H a = some (.dK vs) → TdK K false H I kvs vs → LOk K H I a (.dic kvs)
  | dct {kvs : List (List Key × P)} {vs : List (List Key × V)} : H a = some (.dT vs) → TdK K false H I kvs vs → LOk K H I a (.dct kvs)

/-! ### what stays -/
section
variable {q : Bool} {K : PySem.W.Frag} {mg : Str → Option Value} {H H' H1 H2 : Hp} {I I' : Addr → Prop} {w w' w1 w2 : Wo}
/-- what is known to stay: the untouchable, and all tuples -/
structure MI (H : Hp) (I : Addr → Prop) (H' : Hp) (I' : Addr → Prop) : Prop where
  at' : ∀ a o, I a → H a = some o → I' a ∧ H' a = some o
  tup : ∀ a xs, H a = some (.tup xs) → H' a = some (.tup xs)
theorem FzAt.mono {K : PySem.W.Frag} {a : Addr} {vs : List V} (m : MI H I H' I') (h : FzAt K H I a vs) : FzAt K H' I' a vs := by
  rcases h with ⟨ob, h, i⟩ | h
  · exact .inl ⟨ob, (m.at' _ _ i h).2, (m.at' _ _ i h).1⟩
  · exact .inr h
theorem MI.sub (h : ∀ a, I a → I' a) : MI H I H I' := ⟨fun a _ i e => ⟨h a i, e⟩, fun _ _ e => e⟩
mutual
theorem Td.mono (m : MI H I H' I') : ∀ {x : P} {v : V}, Td K q H I x v → Td K q H' I' x v
  | .non, _, h => by cases h; exact .non
  | .bl _, _, h => by cases h; exact .bl _
  | .int _, _, h => by cases h; exact .int _
  | .str _, _, h => by cases h; exact .str _
  | .lst xs, _, h => by
    cases h with
    | @lst a _ _ h1 h2 h3 =>
      exact .lst (m.at' _ _ h2 h1).2 (m.at' _ _ h2 h1).1 (TdL.mono m h3)
  | .tup xs, _, h => by
    cases h with
    | @tup a _ _ h1 h3 =>
      exact .tup (m.tup _ _ h1) (TdL.mono m h3)
    | tupK hq h1 h3 => exact .tupK hq h1 (TdL.mono m h3)
theorem TdL.mono (m : MI H I H' I') : ∀ {xs : List P} {vs : List V}, TdL K q H I xs vs → TdL K q H' I' xs vs
  | [], _, h => by cases h; exact .nil
  | _ :: _, _, h => by
    cases h with
    | cons h1 h2 => exact .cons (Td.mono m h1) (TdL.mono m h2)
end
theorem TdK.mono {κ : Type} (m : MI H I H' I') {xs : List (κ × P)} {vs : List (κ × V)} (h : TdK K q H I xs vs) : TdK K q H' I' xs vs := by
  induction h with
  | nil => exact .nil
  | cons h1 _ ih => exact .cons (h1.mono m) ih
/-- what is never changed stays, the store grows -/
structure Mono (w : Wo) (H : Hp) (w' : Wo) (H' : Hp) : Prop where
  imm : MI H w.I H' w'.I
  pre : ∀ (n : Nat) (a : Addr), w.ρ[n]? = some a → w'.ρ[n]? = some a
theorem Mono.refl : Mono w H w H := ⟨.sub fun _ h => h, fun _ _ e => e⟩
theorem MI.trans {I1 : Addr → Prop} (a : MI H I H1 I1) (b : MI H1 I1 H2 I') : MI H I H2 I' := ⟨fun x o h e => let ⟨h1, e1⟩ := a.at' x o h e; b.at' x o h1 e1, fun x xs e => b.tup x xs (a.tup x xs e)⟩
theorem Mono.trans (a : Mono w H w1 H1) (b : Mono w1 H1 w2 H2) : Mono w H w2 H2 := ⟨a.imm.trans b.imm, fun n x e => b.pre n x (a.pre n x e)⟩
theorem Mono.rd (m : Mono w H w' H') {a : Addr} {u : HO} (h : Rd H a u) (i : w.I a) : Rd H' a u ∧ w'.I a := by
  rcases h with h | ⟨o, h⟩
  · exact ⟨.inl (m.imm.at' _ _ i h).2, (m.imm.at' _ _ i h).1⟩
  · exact ⟨.inr ⟨o, (m.imm.at' _ _ i h).2⟩, (m.imm.at' _ _ i h).1⟩
theorem Vd.mono (m : Mono w H w' H') {x : D} {v : V} (h : Vd K H w x v) : Vd K H' w' x v := by
  cases h with
  | p h => exact .p (h.mono m.imm)
  | kt h1 h2 => exact .kt h1 h2
  | fz h1 h3 => exact .fz (h1.mono m.imm) (h3.mono m.imm)
  | loc h => exact .loc (m.pre _ _ h)
  | dic h1 h2 h3 => exact .dic (m.rd h1 h2).1 (m.rd h1 h2).2 (h3.mono m.imm)
  | dct h1 h2 h3 => exact .dct (m.rd h1 h2).1 (m.rd h1 h2).2 (h3.mono m.imm)
theorem VdL.mono (m : Mono w H w' H') {xs : List D} {vs : List V} (h : VdL K H w xs vs) : VdL K H' w' xs vs := by
  induction h with
  | nil => exact .nil
  | cons h1 _ ih => exact .cons (h1.mono m) ih
theorem VdK.mono {κ : Type} (m : Mono w H w' H') {xs : List (κ × D)} {vs : List (κ × V)} (h : VdK K H w xs vs) : VdK K H' w' xs vs := by
  induction h with
  | nil => exact .nil
  | cons h1 _ ih => exact .cons (h1.mono m) ih
/-- from a def's entry: what was tracked stays, but the store's objects; what is new is new -/
structure Ext (w : Wo) (H : Hp) (w' : Wo) (H' : Hp) : Prop where
  keep : ∀ (a : Addr) (o : HO), H a = some o → a ∉ w.ρ → H' a = some o
  pre : ∀ (n : Nat) (a : Addr), w.ρ[n]? = some a → w'.ρ[n]? = some a
  newr : ∀ a : Addr, a ∈ w'.ρ → a ∈ w.ρ ∨ H a = none
  imm : ∀ a : Addr, w.I a → w'.I a
  newi : ∀ a : Addr, w'.I a → w.I a ∨ H a = none
  there : ∀ a : Addr, H' a = none → H a = none
  tup : ∀ (a : Addr) (xs : List V), H a = some (.tup xs) → H' a = some (.tup xs)
theorem Ext.refl : Ext w H w H := ⟨fun _ _ e _ => e, fun _ _ e => e, fun _ h => .inl h, fun _ h => h, fun _ h => .inl h, fun _ h => h, fun _ _ e => e⟩
theorem Ext.trans (a : Ext w H w1 H1) (b : Ext w1 H1 w2 H2) : Ext w H w2 H2 where
  keep := fun x o e n => b.keep x o (a.keep x o e n) fun h => by
    rcases a.newr x h with h | h
    · exact n h
    · rw [e] at h; cases h
  pre := fun n x e => b.pre n x (a.pre n x e)
  newr := fun x h => by
    rcases b.newr x h with h | h
    · exact a.newr x h
    · exact .inr (a.there x h)
  imm := fun x h => b.imm x (a.imm x h)
  newi := fun x h => by
    rcases b.newi x h with h | h
    · exact a.newi x h
    · exact .inr (a.there x h)
  there := fun x h => a.there x (b.there x h)
  tup := fun x xs e => b.tup x xs (a.tup x xs e)
/-- the world is sound -/
structure Sound (w : Wo) (H : Hp) : Prop where
  nd : w.ρ.Nodup
  rt : ∀ a, a ∈ w.ρ → H a ≠ none
  ri : ∀ a, a ∈ w.ρ → ¬ w.I a
  it : ∀ a, w.I a → H a ≠ none
theorem Ext.mono (x : Ext w H w' H') (s : Sound w H) : Mono w H w' H' :=
  ⟨⟨fun a o h e => ⟨x.imm a h, x.keep a o e fun z => s.ri a z h⟩, x.tup⟩, x.pre⟩
/-- the store -/
def StOk (K : PySem.W.Frag) (mg : Str → Option Value) (H : Hp) (w : Wo) : Option (List MO) → Prop
  | none => True
  | some S => w.ρ.length = S.length ∧ ∀ (n : Nat) (a : Addr) (m : MO), w.ρ[n]? = some a → S[n]? = some m → MOk K mg H w a m
/-- a def's entry -/
structure Ba where
  w : Wo
  H : Hp
def SlOk (K : PySem.W.Frag) (H : Hp) (w : Wo) (B : Ba) (o : Option (Option V)) : Sl → Prop
  | .un => True
  | .v d => ∃ v, o = some (some v) ∧ Vd K H w d v
  | .lin m => ∃ a, o = some (some (.ref a)) ∧ LOk K H w.I a m ∧ a ∉ w.ρ ∧ ¬ w.I a ∧ B.H a = none
def isLin : Option Sl → Bool
  | some (.lin _) => true
  | _ => false
/-- the state stands at σ, H -/
structure Wd (K : PySem.W.Frag) (mg : Str → Option Value) (B : Ba) (w : Wo) (σ : L2.St) (s : Sta) (H : Hp) : Prop where
  ext : Ext B.w B.H w H
  snd : Sound w H
  sb : Sound B.w B.H
  sto : StOk K mg H w s.st
  sl : ∀ (i : Nat) (x : Sl), s.sl[i]? = some x → SlOk K H w B σ[i]? x
  len : s.sl.length ≤ σ.length
  two : ∀ i j : Nat, i ≠ j → isLin s.sl[i]? = true → isLin s.sl[j]? = true → σ[i]? ≠ σ[j]?
theorem LOk.there {a : Addr} {m : Lin} (h : LOk K H I a m) : H a ≠ none := by
  cases h with
  | lst h _ => rw [h]; exact fun z => nomatch z
  | dic h _ => rw [h]; exact fun z => nomatch z
  | dct h _ => rw [h]; exact fun z => nomatch z
theorem LOk.mono {a : Addr} {m : Lin} (h : LOk K H I a m) (k : ∀ o, H a = some o → H' a = some o) (i : MI H I H' I') : LOk K H' I' a m := by
  cases h with
  | lst h t => exact .lst (k _ h) (t.mono i)
  | dic h t => exact .dic (k _ h) (t.mono i)
  | dct h t => exact .dct (k _ h) (t.mono i)
/-- behind a call or a new thing: all that is not the store's stays -/
theorem Wd.step {B : Ba} {σ : L2.St} {s : Sta} {S' : Option (List MO)} (W : Wd K mg B w σ s H) (x : Ext w H w' H') (sn : Sound w' H') (st : StOk K mg H' w' S') : Wd K mg B w' σ ⟨s.sl, S'⟩ H' where
  ext := W.ext.trans x
  snd := sn
  sb := W.sb
  sto := st
  sl := fun i y e => by
    have h := W.sl i y e
    have m := x.mono W.snd
    cases y with
    | un => trivial
    | v d => obtain ⟨v, e1, h1⟩ := h; exact ⟨v, e1, h1.mono m⟩
    | lin l =>
      obtain ⟨a, e1, h1, h2, h3, h4⟩ := h
      refine ⟨a, e1, h1.mono (fun o e => x.keep a o e h2) m.imm, fun z => ?_, fun z => ?_, h4⟩
      · rcases x.newr a z with z | z
        · exact h2 z
        · exact h1.there z
      · rcases x.newi a z with z | z
        · exact h3 z
        · exact h1.there z
  len := W.len
  two := W.two
theorem MOk.mono {a : Addr} {m : MO} (h : MOk K mg H w a m) (k : ∀ o, H a = some o → H' a = some o) (ko : ∀ b, H b = some (.own a) → H' b = some (.own a)) (i : Mono w H w' H') : MOk K mg H' w' a m := by
  cases h with
  | lst h t => exact .lst (k _ h) (t.mono i)
  | tup h t => exact .tup (k _ h) (t.mono i)
  | dic h t => exact .dic (k _ h) (t.mono i)
  | dct h t => exact .dct (k _ h) (t.mono i)
  | ins g h o t => exact .ins g (k _ h) (ko _ o) (t.mono i)
theorem MOk.there {a : Addr} {m : MO} (h : MOk K mg H w a m) : H a ≠ none := by
  cases h with
  | lst h _ => rw [h]; exact fun z => nomatch z
  | tup h _ => rw [h]; exact fun z => nomatch z
  | dic h _ => rw [h]; exact fun z => nomatch z
  | dct h _ => rw [h]; exact fun z => nomatch z
  | ins _ h _ _ => rw [h]; exact fun z => nomatch z
/-- nothing of what was is changed -/
theorem StOk.mono {S : Option (List MO)} (h : StOk K mg H w S) (k : ∀ a o, H a = some o → H' a = some o) (i : Mono w H w' H') (l : w'.ρ = w.ρ) : StOk K mg H' w' S := by
  cases S with
  | none => trivial
  | some S =>
    refine ⟨by rw [l]; exact h.1, fun n a m e1 e2 => ?_⟩
    rw [l] at e1
    exact (h.2 n a m e1 e2).mono (fun o e => k _ o e) (fun b e => k _ _ e) i
/-- a new address -/
def Wo.add (w : Wo) (p : Addr) : Wo := ⟨w.ρ, fun a => w.I a ∨ a = p⟩
theorem upd_keep {p : Addr} {o : HO} (np : H p = none) : ∀ a u, H a = some u → upd H p o a = some u := fun a u e => by
  rw [upd_ne (ne_of_none e np)]; exact e
theorem Ext.fresh {p : Addr} {o : HO} (np : H p = none) : Ext w H (w.add p) (upd H p o) where
  keep := fun a u e _ => upd_keep np a u e
  pre := fun _ _ e => e
  newr := fun _ h => .inl h
  tup := fun a xs e => upd_keep np a _ e
  imm := fun _ h => .inl h
  newi := fun a h => by
    rcases h with h | rfl
    · exact .inl h
    · exact .inr np
  there := fun a h => by
    cases e : H a with
    | none => rfl
    | some u => rw [upd_keep np a u e] at h; cases h
theorem Sound.fresh {p : Addr} {o : HO} (s : Sound w H) (np : H p = none) : Sound (w.add p) (upd H p o) where
  nd := s.nd
  rt := fun a h z => by
    cases e : H a with
    | none => exact s.rt a h e
    | some u => rw [upd_keep np a u e] at z; cases z
  ri := fun a h z => by
    rcases z with z | rfl
    · exact s.ri a h z
    · exact s.rt a h np
  it := fun a h z => by
    rcases h with h | rfl
    · cases e : H a with
      | none => exact s.it a h e
      | some u => rw [upd_keep np a u e] at z; cases z
    · rw [upd_same] at z; cases z
theorem Wd.fresh {B : Ba} {σ : L2.St} {s : Sta} {p : Addr} {o : HO} (W : Wd K mg B w σ s H) (np : H p = none) : Wd K mg B (w.add p) σ s (upd H p o) :=
  W.step (Ext.fresh np) (W.snd.fresh np) (W.sto.mono (fun a u e => upd_keep np a u e) ((Ext.fresh np).mono W.snd) rfl)
end
end Dz
namespace Dz
open PySem PySem.Spec PyProof.Rows L2 PySem.SeqAt
/-! ### == of data -/
mutual
def eqP : P → P → Bool
  | .non, y => match y with | .non => true | _ => false
  | .bl a, y => match y with | .bl b => a == b | .int j => (if a then 1 else 0) == j | _ => false
  | .int i, y => match y with | .bl b => i == (if b then 1 else 0) | .int j => i == j | _ => false
  | .str a, y => match y with | .str b => a == b | _ => false
  | .lst xs, y => match y with | .lst ys => eqL xs ys | _ => false
  | .tup xs, y => match y with | .tup ys => eqL xs ys | _ => false
def eqL : List P → List P → Bool
  | [], ys => match ys with | [] => true | _ :: _ => false
  | x :: xs, ys => match ys with | [] => false | y :: ys => eqP x y && eqL xs ys
end
mutual
def deep : P → Nat
  | .lst xs => deepL xs + 1
  | .tup xs => deepL xs + 1
  | _ => 0
def deepL : List P → Nat
  | [] => 0
  | x :: xs => max (deep x) (deepL xs)
end
mutual
theorem eqP_refl : ∀ x : P, eqP x x = true
  | .non => rfl
  | .bl _ => by simp [eqP]
  | .int _ => by simp [eqP]
  | .str _ => by simp [eqP]
  | .lst xs => by rw [eqP]; exact eqL_refl xs
  | .tup xs => by rw [eqP]; exact eqL_refl xs
theorem eqL_refl : ∀ xs : List P, eqL xs xs = true
  | [] => rfl
  | x :: xs => by rw [eqL]; simp [eqP_refl x, eqL_refl xs]
end
def eqNth (xs ys : List P) (j : Nat) : Bool := eqP (xs.getD j .non) (ys.getD j .non)
theorem eqL_range : ∀ xs ys : List P, ((List.range (min xs.length ys.length)).all (eqNth xs ys) && xs.length == ys.length) = eqL xs ys
  | [], [] => rfl
  | [], _ :: _ => by simp [eqL]
  | _ :: _, [] => by simp [eqL]
  | x :: xs, y :: ys => by
    rw [eqL, ← eqL_range xs ys]
    have e : min (x :: xs).length (y :: ys).length = min xs.length ys.length + 1 := by simp [Nat.succ_min_succ]
    rw [e, List.range_succ_eq_map, List.all_cons, List.all_map, Bool.and_assoc]
    congr 1
    congr 1
    simp
theorem eqL_same {xs ys : List P} (h : xs.length = ys.length) : (List.range xs.length).all (eqNth xs ys) = eqL xs ys := by
  rw [← eqL_range xs ys]; simp [h]
theorem eqL_other {xs ys : List P} (h : xs.length ≠ ys.length) : eqL xs ys = false := by
  rw [← eqL_range xs ys]; simp [h]
section
variable {q : Bool} {K : PySem.W.Frag} {H : Hp} {J : Addr → Prop} {X : Cx} {pins : List (Addr × Obj)} {σ : L2.St} {s : Shared}
mutual
theorem Td.weak : ∀ {x : P} {v : V}, Td K q H J x v → Td K true H J x v
  | .non, _, h => by cases h; exact .non
  | .bl _, _, h => by cases h; exact .bl _
  | .int _, _, h => by cases h; exact .int _
  | .str _, _, h => by cases h; exact .str _
  | .lst xs, _, h => by
    cases h with
    | lst h1 h2 h3 => exact .lst h1 h2 (TdL.weak h3)
  | .tup xs, _, h => by
    cases h with
    | tup h1 h3 => exact .tup h1 (TdL.weak h3)
    | tupK hq h1 h3 => exact .tupK rfl h1 (TdL.weak h3)
theorem TdL.weak : ∀ {xs : List P} {vs : List V}, TdL K q H J xs vs → TdL K true H J xs vs
  | [], _, h => by cases h; exact .nil
  | _ :: _, _, h => by
    cases h with
    | cons h1 h2 => exact .cons (Td.weak h1) (TdL.weak h2)
end
theorem TdL.len : ∀ {xs : List P} {vs : List V}, TdL K q H J xs vs → xs.length = vs.length
  | _, _, .nil => rfl
  | _, _, .cons _ t => by simp [TdL.len t]
theorem Td.sqT {xs : List P} {v : V} (t : Td K q H J (.tup xs) v) : ∃ a vs, v = .ref a ∧ SqT K H a vs ∧ TdL K q H J xs vs := by
  cases t with
  | tup h t => exact ⟨_, _, rfl, .of h, t⟩
  | tupK _ h t => exact ⟨_, _, rfl, h _, t⟩
theorem Td.sqL {xs : List P} {v : V} (t : Td K q H J (.lst xs) v) : ∃ a vs, v = .ref a ∧ SqL K H a vs ∧ TdL K q H J xs vs := by
  cases t with
  | lst h _ t => exact ⟨_, _, rfl, .of h, t⟩
theorem tl_ne {a : Addr} {xs ys : List V} (I : Inv X pins σ H s) (h1 : SqL X.K H a xs) (h2 : SqT X.K H a ys) : False := by
  obtain ⟨_, _, ⟨o, n, e, c, _⟩, _⟩ := I.list h1
  obtain ⟨_, _, ⟨o', e', c', _⟩, _⟩ := I.tuple h2
  rw [e] at e'; cases e'
  rw [c] at c'; exact absurd c' (by decide)
mutual
theorem Td.uniq (I : Inv X pins σ H s) : ∀ (x y : P) (v : V), Td X.K q H J x v → Td X.K q H J y v → x = y
  | .non, _, _, h, h' => by cases h; cases h'; rfl
  | .bl _, _, _, h, h' => by cases h; cases h'; rfl
  | .int _, _, _, h, h' => by cases h; cases h'; rfl
  | .str _, _, _, h, h' => by cases h; cases h'; rfl
  | .lst xs, y, _, h, h' => by
    obtain ⟨a, vs, rfl, q, t⟩ := h.sqL
    cases y with
    | lst ys =>
      obtain ⟨b, ws, e, q', t'⟩ := h'.sqL
      cases e
      cases I.list_inj q q'
      rw [TdL.uniq I xs ys _ t t']
    | tup ys =>
      obtain ⟨b, ws, e, q', t'⟩ := h'.sqT
      cases e
      exact (tl_ne I q q').elim
    | non => cases h'
    | bl _ => cases h'
    | int _ => cases h'
    | str _ => cases h'
  | .tup xs, y, _, h, h' => by
    obtain ⟨a, vs, rfl, q, t⟩ := h.sqT
    cases y with
    | tup ys =>
      obtain ⟨b, ws, e, q', t'⟩ := h'.sqT
      cases e
      cases I.tuple_inj q q'
      rw [TdL.uniq I xs ys _ t t']
    | lst ys =>
      obtain ⟨b, ws, e, q', t'⟩ := h'.sqL
      cases e
      exact (tl_ne I q' q).elim
    | non => cases h'
    | bl _ => cases h'
    | int _ => cases h'
    | str _ => cases h'
theorem TdL.uniq (I : Inv X pins σ H s) : ∀ (xs ys : List P) (vs : List V), TdL X.K q H J xs vs → TdL X.K q H J ys vs → xs = ys
  | [], _, _, h, h' => by cases h; cases h'; rfl
  | x :: xs, _, _, h, h' => by
    cases h with
    | cons h1 h2 =>
      cases h' with
      | cons g1 g2 => rw [Td.uniq I _ _ _ h1 g1, TdL.uniq I _ _ _ h2 g2]
end
def flatP : P → Bool
  | .lst _ => false
  | .tup _ => false
  | _ => true
theorem flat_v {x : P} {v : V} (t : Td K q H J x v) (h : flatP x = true) : flatV v = true := by
  cases t <;> first | rfl | cases h
theorem flat_eq {x y : P} {v u : V} (t : Td K q H J x v) (t' : Td K q H J y u) (h : flatP x = true) (h' : flatP y = true) : eqV v u = eqP x y := by
  cases t <;> cases t' <;> first | rfl | cases h | cases h' | (rename_i a b; cases a <;> cases b <;> rfl)
/-- how a container stands -/
theorem lst_at (I : Inv X pins σ H s) {xs : List P} {v : V} {u : Value} (t : Td X.K q H J (.lst xs) v) (r : RelV v u) : ∃ a its vs, v = .ref a ∧ u = .ref a ∧ s.heap.IsList a (its : List Value).toArray ∧ TdL X.K q H J xs vs ∧ Vals vs its := by
  obtain ⟨a, vs, rfl, q, t⟩ := t.sqL
  obtain ⟨its, rv, p, _⟩ := I.list q
  cases r
  exact ⟨a, its, vs, rfl, rfl, p.isList, t, rv⟩
theorem tup_at (I : Inv X pins σ H s) {xs : List P} {v : V} {u : Value} (t : Td X.K q H J (.tup xs) v) (r : RelV v u) : ∃ a its vs, v = .ref a ∧ u = .ref a ∧ s.heap.IsTuple a (its : List Value).toArray ∧ TdL X.K q H J xs vs ∧ Vals vs its := by
  obtain ⟨a, vs, rfl, q, t⟩ := t.sqT
  obtain ⟨its, rv, p, _⟩ := I.tuple q
  cases r
  exact ⟨a, its, vs, rfl, rfl, show s.heap.IsTuple a its.toArray from p, t, rv⟩
theorem fl_cases {x : P} {v : V} {u : Value} (t : Td K q H J x v) (h : flatP x = true) (r : RelV v u) : u = .none ∨ (∃ b, u = .bool b) ∨ (∃ i k, u = .int i k) ∨ ∃ z k, u = .str z k := by
  cases t with
  | non => exact .inl r
  | bl b => exact .inr (.inl ⟨b, r⟩)
  | int i => obtain ⟨k, e⟩ := r; exact .inr (.inr (.inl ⟨i, k, e⟩))
  | str z => obtain ⟨k, e⟩ := r; exact .inr (.inr (.inr ⟨z, k, e⟩))
  | lst _ _ _ => cases h
  | tup _ _ => cases h
  | tupK _ _ _ => cases h
theorem eq_fc {x y : P} (h : flatP x = true) (h' : flatP y = false) : eqP x y = false := by
  cases x <;> cases y <;> first | (cases h; done) | (cases h'; done) | simp [eqP]
theorem eq_cf {x y : P} (h : flatP x = false) (h' : flatP y = true) : eqP x y = false := by
  cases x <;> cases y <;> first | (cases h; done) | (cases h'; done) | simp [eqP]
theorem nth_v : ∀ {xs : List P} {vs : List V} (t : TdL K q H J xs vs) {j : Nat}, j < vs.length → ∃ v, vs[j]? = some v ∧ Td K q H J (xs.getD j .non) v
  | _, _, .nil, j, h => nomatch h
  | _, _, .cons h1 _, 0, _ => ⟨_, rfl, h1⟩
  | _, _, .cons _ t, j + 1, h => nth_v t (Nat.lt_of_succ_lt_succ h)
theorem nth_d : ∀ {xs : List P} {j : Nat}, j < xs.length → deep (xs.getD j .non) ≤ deepL xs
  | x :: xs, 0, _ => Nat.le_max_left _ _
  | x :: xs, j + 1, h => Nat.le_trans (nth_d (xs := xs) (Nat.lt_of_succ_lt_succ h)) (Nat.le_max_right _ _)
/-- == as the containers ask of their items -/
theorem eq_at (I : Inv X pins σ H s) : ∀ (n : Nat) (x y : P) (v w : V) (a b : Value) (A : Around), min (deep x) (deep y) ≤ n → Td X.K q H J x v → Td X.K q H J y w → RelV v a → RelV w b → A.units + n < cLine → EqAt A s a b (eqP x y) := by
  intro n
  induction n with
  | zero =>
    intro x y v w a b A hn tx ty rx ry hu
    have hu' : A.units < cLine := hu
    cases fx : flatP x with
    | true =>
      cases fy : flatP y with
      | true => rw [← flat_eq tx ty fx fy]; exact eqAt_V rx ry (flat_v tx fx) (flat_v ty fy)
      | false =>
        rw [eq_fc fx fy]
        cases y with
        | lst ys =>
          obtain ⟨l, its, vs, rfl, rfl, p, _⟩ := lst_at I ty ry
          rcases fl_cases tx fx rx with rfl | ⟨_, rfl⟩ | ⟨_, _, rfl⟩ | ⟨_, _, rfl⟩ <;> first | exact EqAt.none_list p hu' | exact EqAt.bool_list _ p hu' | exact EqAt.int_list _ _ p hu' | exact EqAt.str_list _ _ p hu'
        | tup ys =>
          obtain ⟨l, its, vs, rfl, rfl, p, _⟩ := tup_at I ty ry
          rcases fl_cases tx fx rx with rfl | ⟨_, rfl⟩ | ⟨_, _, rfl⟩ | ⟨_, _, rfl⟩ <;> first | exact EqAt.none_tuple p hu' | exact EqAt.bool_tuple _ p hu' | exact EqAt.int_tuple _ _ p hu' | exact EqAt.str_tuple _ _ p hu'
        | non => cases fy
        | bl _ => cases fy
        | int _ => cases fy
        | str _ => cases fy
    | false =>
      cases fy : flatP y with
      | true =>
        rw [eq_cf fx fy]
        cases x with
        | lst xs =>
          obtain ⟨l, its, vs, rfl, rfl, p, _⟩ := lst_at I tx rx
          rcases fl_cases ty fy ry with rfl | ⟨_, rfl⟩ | ⟨_, _, rfl⟩ | ⟨_, _, rfl⟩ <;> first | exact EqAt.list_none p hu' | exact EqAt.list_bool _ p hu' | exact EqAt.list_int _ _ p hu' | exact EqAt.list_str _ _ p hu'
        | tup xs =>
          obtain ⟨l, its, vs, rfl, rfl, p, _⟩ := tup_at I tx rx
          rcases fl_cases ty fy ry with rfl | ⟨_, rfl⟩ | ⟨_, _, rfl⟩ | ⟨_, _, rfl⟩ <;> first | exact EqAt.tuple_none p hu' | exact EqAt.tuple_bool _ p hu' | exact EqAt.tuple_int _ _ p hu' | exact EqAt.tuple_str _ _ p hu'
        | non => cases fx
        | bl _ => cases fx
        | int _ => cases fx
        | str _ => cases fx
      | false =>
        exfalso
        cases x <;> cases y <;> first | (cases fx; done) | (cases fy; done) | (simp [deep] at hn; done) | (simp [deep] at hn; omega)
  | succ n ih =>
    intro x y v w a b A hn tx ty rx ry hu
    have hu' : A.units < cLine := Nat.lt_of_le_of_lt (Nat.le_add_right _ _) hu
    by_cases h0 : min (deep x) (deep y) ≤ n
    · exact ih x y v w a b A h0 tx ty rx ry (by omega)
    have items : ∀ {xs ys : List P} {vs ws : List V} {is js : List Value}, min (deepL xs) (deepL ys) ≤ n → TdL X.K q H J xs vs → TdL X.K q H J ys ws → Vals vs is → Vals ws js →
        ∀ j (h1 : j < is.toArray.size) (h2 : j < js.toArray.size), EqAt A.in1 s is.toArray[j] js.toArray[j] (eqNth xs ys j) := fun {xs ys vs ws is js} hd t1 t2 r1 r2 j h1 h2 => by
      have l1 : j < vs.length := by rw [r1.length]; simpa using h1
      have l2 : j < ws.length := by rw [r2.length]; simpa using h2
      obtain ⟨v1, e1, d1⟩ := nth_v t1 l1
      obtain ⟨v2, e2, d2⟩ := nth_v t2 l2
      obtain ⟨u1, g1, k1⟩ := r1.get e1
      obtain ⟨u2, g2, k2⟩ := r2.get e2
      have q1 : is.toArray[j] = u1 := by simpa [List.getElem?_eq_some_iff] using (List.getElem?_eq_some_iff.mp g1).2
      have q2 : js.toArray[j] = u2 := by simpa [List.getElem?_eq_some_iff] using (List.getElem?_eq_some_iff.mp g2).2
      rw [q1, q2]
      have p1 := nth_d (xs := xs) (j := j) (by rw [t1.len]; exact l1)
      have p2 := nth_d (xs := ys) (j := j) (by rw [t2.len]; exact l2)
      exact ih _ _ _ _ _ _ A.in1 (by omega) d1 d2 k1 k2 (by show A.units + 1 + n < _; omega)
    cases x with
    | non => simp [deep] at h0
    | bl _ => simp [deep] at h0
    | int _ => simp [deep] at h0
    | str _ => simp [deep] at h0
    | lst xs =>
      cases y with
      | non => simp [deep] at h0
      | bl _ => simp [deep] at h0
      | int _ => simp [deep] at h0
      | str _ => simp [deep] at h0
      | tup ys =>
        obtain ⟨l, is, vs, rfl, rfl, p, _⟩ := lst_at I tx rx
        obtain ⟨m, js, ws, rfl, rfl, p', _⟩ := tup_at I ty ry
        exact EqAt.list_tuple p p' hu'
      | lst ys =>
        obtain ⟨l, is, vs, rfl, rfl, p, t1, r1⟩ := lst_at I tx rx
        obtain ⟨m, js, ws, rfl, rfl, p', t2, r2⟩ := lst_at I ty ry
        by_cases hlm : l = m
        · subst hlm
          rw [Td.uniq I _ _ _ tx ty, eqP_refl]
          exact EqAt.same _
        · refine EqAt.of_refs hlm ?_
          have n1 : is.toArray.size = xs.length := by rw [t1.len, r1.length]; simp
          have n2 : js.toArray.size = ys.length := by rw [t2.len, r2.length]; simp
          rw [eqP]
          by_cases hsz : xs.length = ys.length
          · rw [← eqL_same hsz, ← n1]
            exact RcAt.lists p p' (by rw [n1, n2, hsz]) hu' (items (by simp [deep] at hn; omega) t1 t2 r1 r2)
          · rw [eqL_other hsz]
            exact RcAt.lists_lengths p p' (by rw [n1, n2]; simpa using hsz) hu'
    | tup xs =>
      cases y with
      | non => simp [deep] at h0
      | bl _ => simp [deep] at h0
      | int _ => simp [deep] at h0
      | str _ => simp [deep] at h0
      | lst ys =>
        obtain ⟨l, is, vs, rfl, rfl, p, _⟩ := tup_at I tx rx
        obtain ⟨m, js, ws, rfl, rfl, p', _⟩ := lst_at I ty ry
        exact EqAt.tuple_list p p' hu'
      | tup ys =>
        obtain ⟨l, is, vs, rfl, rfl, p, t1, r1⟩ := tup_at I tx rx
        obtain ⟨m, js, ws, rfl, rfl, p', t2, r2⟩ := tup_at I ty ry
        by_cases hlm : l = m
        · subst hlm
          rw [Td.uniq I _ _ _ tx ty, eqP_refl]
          exact EqAt.same _
        · refine EqAt.of_refs hlm ?_
          have n1 : is.toArray.size = xs.length := by rw [t1.len, r1.length]; simp
          have n2 : js.toArray.size = ys.length := by rw [t2.len, r2.length]; simp
          rw [eqP]
          rw [← eqL_range, ← n1, ← n2]
          exact RcAt.tuples p p' hu' (items (by simp [deep] at hn; omega) t1 t2 r1 r2)
/-- .. of flat data -/
theorem rc_fl {A : Around} {x y : P} {v w : V} {a b : Value} (tx : Td K q H J x v) (ty : Td K q H J y w) (rx : RelV v a) (ry : RelV w b) (fx : flatP x = true) (fy : flatP y = true) : RcAt A s a b (eqP x y) ∧ RcNeAt A s a b (!eqP x y) := by
  cases tx with
  | non =>
    obtain rfl := rx
    cases ty with
    | non =>
      obtain rfl := ry
      exact ⟨RcAt.none_none, RcNeAt.none_none⟩
    | bl _ =>
      obtain rfl := ry
      exact ⟨RcAt.none_bool _, RcNeAt.none_bool _⟩
    | int _ =>
      obtain ⟨_, rfl⟩ := ry
      exact ⟨RcAt.none_int _ _, RcNeAt.none_int _ _⟩
    | str _ =>
      obtain ⟨_, rfl⟩ := ry
      exact ⟨RcAt.none_str _ _, RcNeAt.none_str _ _⟩
    | lst _ _ _ => cases fy
    | tup _ _ => cases fy
    | tupK _ _ _ => cases fy
  | bl _ =>
    obtain rfl := rx
    cases ty with
    | non =>
      obtain rfl := ry
      exact ⟨RcAt.bool_none _, RcNeAt.bool_none _⟩
    | bl _ =>
      obtain rfl := ry
      exact ⟨RcAt.bool_bool _ _, RcNeAt.bool_bool _ _⟩
    | int _ =>
      obtain ⟨_, rfl⟩ := ry
      exact ⟨RcAt.bool_int _ _ _, RcNeAt.bool_int _ _ _⟩
    | str _ =>
      obtain ⟨_, rfl⟩ := ry
      exact ⟨RcAt.bool_str _ _ _, RcNeAt.bool_str _ _ _⟩
    | lst _ _ _ => cases fy
    | tup _ _ => cases fy
    | tupK _ _ _ => cases fy
  | int _ =>
    obtain ⟨_, rfl⟩ := rx
    cases ty with
    | non =>
      obtain rfl := ry
      exact ⟨RcAt.int_none _ _, RcNeAt.int_none _ _⟩
    | bl _ =>
      obtain rfl := ry
      exact ⟨RcAt.int_bool _ _ _, RcNeAt.int_bool _ _ _⟩
    | int _ =>
      obtain ⟨_, rfl⟩ := ry
      exact ⟨RcAt.int_int _ _ _ _, RcNeAt.int_int _ _ _ _⟩
    | str _ =>
      obtain ⟨_, rfl⟩ := ry
      exact ⟨RcAt.int_str _ _ _ _, RcNeAt.int_str _ _ _ _⟩
    | lst _ _ _ => cases fy
    | tup _ _ => cases fy
    | tupK _ _ _ => cases fy
  | str _ =>
    obtain ⟨_, rfl⟩ := rx
    cases ty with
    | non =>
      obtain rfl := ry
      exact ⟨RcAt.str_none _ _, RcNeAt.str_none _ _⟩
    | bl _ =>
      obtain rfl := ry
      exact ⟨RcAt.str_bool _ _ _, RcNeAt.str_bool _ _ _⟩
    | int _ =>
      obtain ⟨_, rfl⟩ := ry
      exact ⟨RcAt.str_int _ _ _ _, RcNeAt.str_int _ _ _ _⟩
    | str _ =>
      obtain ⟨_, rfl⟩ := ry
      exact ⟨RcAt.str_str _ _ _ _, RcNeAt.str_str _ _ _ _⟩
    | lst _ _ _ => cases fy
    | tup _ _ => cases fy
    | tupK _ _ _ => cases fy
  | lst _ _ _ => cases fx
  | tup _ _ => cases fx
  | tupK _ _ _ => cases fx
/-- == and != themselves -/
theorem rc_at (I : Inv X pins σ H s) {x y : P} {v w : V} {a b : Value} {A : Around} (hu : A.units + (min (deep x) (deep y) + 1) < cLine) (tx : Td X.K q H J x v) (ty : Td X.K q H J y w) (rx : RelV v a) (ry : RelV w b) :
    RcAt A s a b (eqP x y) ∧ RcNeAt A s a b (!eqP x y) := by
  have hu' : A.units < cLine := by omega
  cases fx : flatP x with
  | true =>
    cases fy : flatP y with
    | true => exact rc_fl tx ty rx ry fx fy
    | false =>
      rw [eq_fc fx fy]
      cases y with
      | lst ys =>
        obtain ⟨l, its, vs, rfl, rfl, p, _⟩ := lst_at I ty ry
        rcases fl_cases tx fx rx with rfl | ⟨_, rfl⟩ | ⟨_, _, rfl⟩ | ⟨_, _, rfl⟩ <;> refine ⟨?_, ?_⟩ <;>
          first | exact RcAt.none_list p hu' | exact RcAt.bool_list _ p hu' | exact RcAt.int_list _ _ p hu' | exact RcAt.str_list _ _ p hu' | exact RcNeAt.none_list p hu' | exact RcNeAt.bool_list _ p hu' | exact RcNeAt.int_list _ _ p hu' | exact RcNeAt.str_list _ _ p hu'
      | tup ys =>
        obtain ⟨l, its, vs, rfl, rfl, p, _⟩ := tup_at I ty ry
        rcases fl_cases tx fx rx with rfl | ⟨_, rfl⟩ | ⟨_, _, rfl⟩ | ⟨_, _, rfl⟩ <;> refine ⟨?_, ?_⟩ <;>
          first | exact RcAt.none_tuple p hu' | exact RcAt.bool_tuple _ p hu' | exact RcAt.int_tuple _ _ p hu' | exact RcAt.str_tuple _ _ p hu' | exact RcNeAt.none_tuple p hu' | exact RcNeAt.bool_tuple _ p hu' | exact RcNeAt.int_tuple _ _ p hu' | exact RcNeAt.str_tuple _ _ p hu'
      | non => cases fy
      | bl _ => cases fy
      | int _ => cases fy
      | str _ => cases fy
  | false =>
    cases fy : flatP y with
    | true =>
      rw [eq_cf fx fy]
      cases x with
      | lst xs =>
        obtain ⟨l, its, vs, rfl, rfl, p, _⟩ := lst_at I tx rx
        rcases fl_cases ty fy ry with rfl | ⟨_, rfl⟩ | ⟨_, _, rfl⟩ | ⟨_, _, rfl⟩ <;> refine ⟨?_, ?_⟩ <;>
          first | exact RcAt.list_none p hu' | exact RcAt.list_bool _ p hu' | exact RcAt.list_int _ _ p hu' | exact RcAt.list_str _ _ p hu' | exact RcNeAt.list_none p hu' | exact RcNeAt.list_bool _ p hu' | exact RcNeAt.list_int _ _ p hu' | exact RcNeAt.list_str _ _ p hu'
      | tup xs =>
        obtain ⟨l, its, vs, rfl, rfl, p, _⟩ := tup_at I tx rx
        rcases fl_cases ty fy ry with rfl | ⟨_, rfl⟩ | ⟨_, _, rfl⟩ | ⟨_, _, rfl⟩ <;> refine ⟨?_, ?_⟩ <;>
          first | exact RcAt.tuple_none p hu' | exact RcAt.tuple_bool _ p hu' | exact RcAt.tuple_int _ _ p hu' | exact RcAt.tuple_str _ _ p hu' | exact RcNeAt.tuple_none p hu' | exact RcNeAt.tuple_bool _ p hu' | exact RcNeAt.tuple_int _ _ p hu' | exact RcNeAt.tuple_str _ _ p hu'
      | non => cases fx
      | bl _ => cases fx
      | int _ => cases fx
      | str _ => cases fx
    | false =>
      have items : ∀ {xs ys : List P} {vs ws : List V} {is js : List Value}, A.units + 1 + min (deepL xs) (deepL ys) < cLine → TdL X.K q H J xs vs → TdL X.K q H J ys ws → Vals vs is → Vals ws js →
          ∀ j (h1 : j < is.toArray.size) (h2 : j < js.toArray.size), EqAt A.in1 s is.toArray[j] js.toArray[j] (eqNth xs ys j) := fun {xs ys vs ws is js} hd t1 t2 r1 r2 j h1 h2 => by
        have l1 : j < vs.length := by rw [r1.length]; simpa using h1
        have l2 : j < ws.length := by rw [r2.length]; simpa using h2
        obtain ⟨v1, e1, d1⟩ := nth_v t1 l1
        obtain ⟨v2, e2, d2⟩ := nth_v t2 l2
        obtain ⟨u1, g1, k1⟩ := r1.get e1
        obtain ⟨u2, g2, k2⟩ := r2.get e2
        have q1 : is.toArray[j] = u1 := by simpa [List.getElem?_eq_some_iff] using (List.getElem?_eq_some_iff.mp g1).2
        have q2 : js.toArray[j] = u2 := by simpa [List.getElem?_eq_some_iff] using (List.getElem?_eq_some_iff.mp g2).2
        rw [q1, q2]
        have p1 := nth_d (xs := xs) (j := j) (by rw [t1.len]; exact l1)
        have p2 := nth_d (xs := ys) (j := j) (by rw [t2.len]; exact l2)
        exact eq_at I _ _ _ _ _ _ _ A.in1 (Nat.le_refl _) d1 d2 k1 k2 (by show A.units + 1 + _ < _; omega)
      cases x with
      | non => cases fx
      | bl _ => cases fx
      | int _ => cases fx
      | str _ => cases fx
      | lst xs =>
        cases y with
        | non => cases fy
        | bl _ => cases fy
        | int _ => cases fy
        | str _ => cases fy
        | tup ys =>
          obtain ⟨l, is, vs, rfl, rfl, p, _⟩ := lst_at I tx rx
          obtain ⟨m, js, ws, rfl, rfl, p', _⟩ := tup_at I ty ry
          exact ⟨RcAt.list_tuple p p' hu', RcNeAt.list_tuple p p' hu'⟩
        | lst ys =>
          obtain ⟨l, is, vs, rfl, rfl, p, t1, r1⟩ := lst_at I tx rx
          obtain ⟨m, js, ws, rfl, rfl, p', t2, r2⟩ := lst_at I ty ry
          have n1 : is.toArray.size = xs.length := by rw [t1.len, r1.length]; simp
          have n2 : js.toArray.size = ys.length := by rw [t2.len, r2.length]; simp
          have it := items (by simp [deep] at hu; omega) t1 t2 r1 r2
          rw [eqP]
          by_cases hsz : xs.length = ys.length
          · rw [← eqL_same hsz, ← n1]
            exact ⟨RcAt.lists p p' (by rw [n1, n2, hsz]) hu' it, RcNeAt.lists p p' (by rw [n1, n2, hsz]) hu' it⟩
          · rw [eqL_other hsz]
            have hz : (is.toArray.size != js.toArray.size) = true := by rw [n1, n2]; simpa using hsz
            exact ⟨RcAt.lists_lengths p p' hz hu', RcNeAt.lists_lengths p p' hz hu'⟩
      | tup xs =>
        cases y with
        | non => cases fy
        | bl _ => cases fy
        | int _ => cases fy
        | str _ => cases fy
        | lst ys =>
          obtain ⟨l, is, vs, rfl, rfl, p, _⟩ := tup_at I tx rx
          obtain ⟨m, js, ws, rfl, rfl, p', _⟩ := lst_at I ty ry
          exact ⟨RcAt.tuple_list p p' hu', RcNeAt.tuple_list p p' hu'⟩
        | tup ys =>
          obtain ⟨l, is, vs, rfl, rfl, p, t1, r1⟩ := tup_at I tx rx
          obtain ⟨m, js, ws, rfl, rfl, p', t2, r2⟩ := tup_at I ty ry
          have n1 : is.toArray.size = xs.length := by rw [t1.len, r1.length]; simp
          have n2 : js.toArray.size = ys.length := by rw [t2.len, r2.length]; simp
          have it := items (by simp [deep] at hu; omega) t1 t2 r1 r2
          rw [eqP]
          rw [← eqL_range, ← n1, ← n2]
          exact ⟨RcAt.tuples p p' hu' it, RcNeAt.tuples p p' hu' it⟩
end
def rEq (K : PySem.W.Frag) : R2 := fun x y H Q => ∃ (J : Addr → Prop) (d e : P), Td K true H J d x ∧ Td K true H J e y ∧ min (deep d) (deep e) ≤ 60 ∧ Q (.bl (eqP d e)) H
def rNe (K : PySem.W.Frag) : R2 := fun x y H Q => ∃ (J : Addr → Prop) (d e : P), Td K true H J d x ∧ Td K true H J e y ∧ min (deep d) (deep e) ≤ 60 ∧ Q (.bl (!eqP d e)) H
theorem op_eqP {X : Cx} (hu : X.A.units + 64 < cLine) : OpR X (compareOp .Eq) (rEq X.K) := by
  intro pins s σ H x y v u Q I rx ry h
  obtain ⟨J, d, e, td, te, hd, q⟩ := h
  exact (rc_at (A := X.A) I (by omega) td te rx ry).1 _ _ _ _ ⟨.bl _, H, I, rfl, q⟩
theorem op_neP {X : Cx} (hu : X.A.units + 64 < cLine) : OpR X (compareOp .NotEq) (rNe X.K) := by
  intro pins s σ H x y v u Q I rx ry h
  obtain ⟨J, d, e, td, te, hd, q⟩ := h
  exact (rc_at (A := X.A) I (by omega) td te rx ry).2 _ _ _ _ ⟨.bl _, H, I, rfl, q⟩
end Dz
namespace Dz
open PySem PySem.Spec PyProof.Rows L2
/-! ### judgements -/
theorem PEi {X : Cx} {e : Expr} {t t' : TE} (h : PE X e t) (k : ∀ σ H Q, t' σ H Q → t σ H Q) : PE X e t' := ⟨fun pins s σ H Q I q => h.run pins s σ H Q I (k σ H Q q)⟩
theorem PTi {X : Cx} {e : Expr} {t t' : TT} (h : PT X e t) (k : ∀ σ H Q, t' σ H Q → t σ H Q) : PT X e t' := ⟨fun pins s σ H Q I q => h.run pins s σ H Q I (k σ H Q q)⟩
theorem PAi {X : Cx} {es : List Expr} {t t' : TA} (h : PA X es t) (k : ∀ σ H Q, t' σ H Q → t σ H Q) : PA X es t' := ⟨fun pos pins s σ H Q I q => h.run pos pins s σ H Q I (k σ H Q q)⟩
theorem PSi {X : Cx} {st : Stmt} {t t' : TS} (h : PS X st t) (k : ∀ D σ H, t' D σ H → t D σ H) : PS X st t' := ⟨fun pins s σ H D I q => h.run pins s σ H D I (k D σ H q)⟩
theorem PSsi {X : Cx} {st : List Stmt} {t t' : TS} (h : PSs X st t) (k : ∀ D σ H, t' D σ H → t D σ H) : PSs X st t' := ⟨fun pins s σ H D I q => h.run pins s σ H D I (k D σ H q)⟩
theorem OpR.or {X : Cx} {f : Value → Value → Sem Value} {r r' : R2} (h : OpR X f r) (h' : OpR X f r') : OpR X f (fun x y H Q => r x y H Q ∨ r' x y H Q) := fun pins s σ H x y v u Q I rx ry q => by
  rcases q with q | q
  · exact h pins s σ H x y v u Q I rx ry q
  · exact h' pins s σ H x y v u Q I rx ry q
theorem OpR.imp {X : Cx} {f : Value → Value → Sem Value} {r r' : R2} (h : OpR X f r) (k : ∀ x y H Q, r' x y H Q → r x y H Q) : OpR X f r' := fun pins s σ H x y v u Q I rx ry q => h pins s σ H x y v u Q I rx ry (k x y H Q q)
theorem CallR.or {X : Cx} {f : Value} {r r' : List V → Hp → VK → Prop} (h : CallR X f r) (h' : CallR X f r') : CallR X f (fun x H Q => r x H Q ∨ r' x H Q) := fun pins s σ H x v Q I rx q => by
  rcases q with q | q
  · exact h pins s σ H x v Q I rx q
  · exact h' pins s σ H x v Q I rx q
theorem CallR.imp {X : Cx} {f : Value} {r r' : List V → Hp → VK → Prop} (h : CallR X f r) (k : ∀ x H Q, r' x H Q → r x H Q) : CallR X f r' := fun pins s σ H x v Q I rx q => h pins s σ H x v Q I rx (k x H Q q)

/-- an exception that leaves -/
def XV (K : PySem.W.Frag) (mg : Str → Option Value) (H : Hp) (w : Wo) (c : Str) (fs : List P) (cls : Value) (dx : Option Addr) : Prop :=
  mg c = some cls ∧ ∃ d ns vs, dx = some d ∧ H d = some (.xd (List.zip ns vs)) ∧ ns.length = vs.length ∧ TdL K false H w.I fs vs
/-- where a def's body stands: its entry, its wish about exceptions -/
structure Env where
  B : Ba
  E : XK
section
variable (X : Cx) (G : Env)
/-- what is wanted of a result -/
def Post {α β : Type} (R : Hp → Wo → α → β → Prop) (σ : L2.St) (w : Wo) (H : Hp) (r : Res α) (Q : β → Hp → Prop) : Prop :=
  match r with
  | .ok a s' => ∀ b w' H', Mono w H w' H' → Wd X.K X.mg G.B w' σ s' H' → R H' w' a b → Q b H'
  | .ex c fs => ∀ cls dx w' H', Ext G.B.w G.B.H w' H' → Sound w' H' → XV X.K X.mg H' w' c fs cls dx → G.E cls dx H'
  | .bad => False
def RD : Hp → Wo → D → V → Prop := fun H w d v => Vd X.K H w d v
def RA : Hp → Wo → List D → List V → Prop := fun H w d v => VdL X.K H w d v
def RB : Hp → Wo → Bool → Bool → Prop := fun _ _ a b => a = b
def tE (f : Ev) : TE := fun σ H Q => ∃ w s, Wd X.K X.mg G.B w σ s H ∧ Post X G (RD X) σ w H (f s) Q
def tT (f : Sta → Res Bool) : TT := fun σ H Q => ∃ w s, Wd X.K X.mg G.B w σ s H ∧ Post X G RB σ w H (f s) Q
def tA (f : Sta → Res (List D)) : TA := fun σ H Q => ∃ w s, Wd X.K X.mg G.B w σ s H ∧ Post X G (RA X) σ w H (f s) Q
def DE (e : Expr) (f : Ev) : Prop := PE X e (tE X G f)
def DT (e : Expr) (f : Sta → Res Bool) : Prop := PT X e (tT X G f)
def DA (es : List Expr) (f : Sta → Res (List D)) : Prop := PA X es (tA X G f)
end
/-! ### in a row -/
def bnd {α β : Type} (f : Sta → Res α) (g : α → Sta → Res β) : Sta → Res β := fun s => match f s with
  | .ok a s' => g a s'
  | .ex c fs => .ex c fs
  | .bad => .bad
section
variable {X : Cx} {G : Env} {σ : L2.St} {w w1 : Wo} {H H1 : Hp} {s s1 : Sta}
theorem Post.at {α β : Type} {R : Hp → Wo → α → β → Prop} {r : Res α} {Q : β → Hp → Prop} (m : Mono w H w1 H1) (h : Post X G R σ w H r Q) : Post X G R σ w1 H1 r Q := by
  cases r with
  | ok a s' => exact fun b w' H' m' => h b w' H' (m.trans m')
  | ex c fs => exact h
  | bad => exact h
/-- from f, then g: what f's value is to give -/
theorem Post.bind {α β γ δ : Type} {R : Hp → Wo → α → γ → Prop} {R' : Hp → Wo → β → δ → Prop} {f : Sta → Res α} {g : α → Sta → Res β} {Q : δ → Hp → Prop} {Q1 : γ → Hp → Prop} (h : Post X G R' σ w H (Dz.bnd f g s) Q)
    (k : ∀ a s1 b w1 H1, Mono w H w1 H1 → Wd X.K X.mg G.B w1 σ s1 H1 → R H1 w1 a b → Post X G R' σ w1 H1 (g a s1) Q → Q1 b H1) : Post X G R σ w H (f s) Q1 := by
  unfold Dz.bnd at h
  cases e : f s with
  | ok a s' =>
    rw [e] at h
    exact fun b w' H' m W r => k a s' b w' H' m W r (h.at m)
  | ex c fs => rw [e] at h; exact h
  | bad => rw [e] at h; exact h
theorem Post.imp {α β : Type} {R : Hp → Wo → α → β → Prop} {r : Res α} {Q Q' : β → Hp → Prop} (h : Post X G R σ w H r Q) (k : ∀ a s1 b w1 H1, r = .ok a s1 → Mono w H w1 H1 → Wd X.K X.mg G.B w1 σ s1 H1 → R H1 w1 a b → Q b H1 → Q' b H1) : Post X G R σ w H r Q' := by
  cases r with
  | ok a s' => exact fun b w' H' m W r => k a s' b w' H' rfl m W r (h b w' H' m W r)
  | ex c fs => exact h
  | bad => exact h
/-- a value that is there -/
theorem Post.here {α β : Type} {R : Hp → Wo → α → β → Prop} {a : α} {b : β} {Q : β → Hp → Prop} (W : Wd X.K X.mg G.B w σ s H) (r : R H w a b) (h : Post X G R σ w H (.ok a s) Q) : Q b H := h b w H .refl W r

/-! ### names and constants -/
/-- reading a local: a list or dict of its own is known from then on, and not changed any more -/
def rd (i : Nat) : Ev := fun s => match s.sl[i]? with
  | some (.v d) => .ok d s
  | some (.lin (.lst xs)) => .ok (.p (.lst xs)) ⟨s.sl.set i (.v (.p (.lst xs))), s.st⟩
  | some (.lin (.dic kvs)) => .ok (.dic kvs) ⟨s.sl.set i (.v (.dic kvs)), s.st⟩
  | some (.lin (.dct kvs)) => .ok (.dct kvs) ⟨s.sl.set i (.v (.dct kvs)), s.st⟩
  | _ => .bad
def cst (d : D) : Ev := fun s => .ok d s

theorem Sound.add {a : Addr} (h : Sound w H) (n : a ∉ w.ρ) (t : H a ≠ none) : Sound (w.add a) H where
  nd := h.nd
  rt := h.rt
  ri := fun b hb z => by
    rcases z with z | rfl
    · exact h.ri b hb z
    · exact n hb
  it := fun b z => by
    rcases z with z | rfl
    · exact h.it b z
    · exact t
theorem Mono.add {a : Addr} : Mono w H (w.add a) H := ⟨.sub fun _ h => .inl h, fun _ _ e => e⟩
theorem isLin_v {d : D} : isLin (some (.v d)) = false := rfl
/-- what a slot holds is put in another way, the address as it was -/
theorem Wd.know {K : PySem.W.Frag} {mg : Str → Option Value} {B : Ba} {i : Nat} {m : Lin} {d : D} (W : Wd K mg B w σ s H) (e : s.sl[i]? = some (.lin m)) (hd : ∀ a, LOk K H w.I a m → ∃ v, (.ref a : V) = v ∧ Vd K H (w.add a) d v) :
    ∃ v, σ[i]? = some (some v) ∧ ∃ w', Mono w H w' H ∧ Wd K mg B w' σ ⟨s.sl.set i (.v d), s.st⟩ H ∧ Vd K H w' d v := by
  obtain ⟨a, ea, l, n1, n2, n3⟩ := W.sl i _ e
  obtain ⟨v, rfl, vd⟩ := hd a l
  have il : i < s.sl.length := (List.getElem?_eq_some_iff.mp e).1
  refine ⟨_, ea, w.add a, .add, ⟨?_, W.snd.add n1 l.there, W.sb, W.sto.mono (fun _ _ e => e) .add rfl, fun j x ej => ?_, by show (s.sl.set i _).length ≤ _; rw [List.length_set]; exact W.len, fun p q pq hp hq => ?_⟩, vd⟩
  · refine ⟨W.ext.keep, W.ext.pre, W.ext.newr, fun b hb => .inl (W.ext.imm b hb), fun b hb => ?_, W.ext.there, W.ext.tup⟩
    rcases hb with hb | rfl
    · exact W.ext.newi b hb
    · exact .inr n3
  · rw [List.getElem?_set] at ej
    split at ej
    · rename_i eq
      subst eq
      cases ej
      exact ⟨_, ea, vd⟩
    · rename_i nij
      have h := W.sl j x ej
      cases x with
      | un => trivial
      | v d => obtain ⟨v, e1, h1⟩ := h; exact ⟨v, e1, h1.mono .add⟩
      | lin l' =>
        obtain ⟨b, e1, h1, h2, h3, h4⟩ := h
        refine ⟨b, e1, h1.mono (fun _ e => e) (.sub fun _ h => .inl h), h2, fun z => ?_, h4⟩
        rcases z with z | rfl
        · exact h3 z
        · exact W.two i j nij (by rw [e]; rfl) (by rw [ej]; rfl) (ea.trans e1.symm)
  · have other : ∀ p, isLin (s.sl.set i (.v d))[p]? = true → isLin s.sl[p]? = true := fun p hp => by
      rw [List.getElem?_set] at hp
      split at hp
      · cases hp
      · exact hp
    exact W.two p q pq (other p hp) (other q hq)
theorem de_rd {i : Nat} {x : Str} {pos : Pos} (hN : X.N[i]? = some x := by rfl) (hv : Vis X.env.scope x := by first | exact Or.inl rfl | exact Or.inr (Or.inl rfl) | exact Or.inr (Or.inr rfl)) (hd : (x == ("__debug__" : Str)) = false := by decide)
    (hcd : (x == ("__classdict__" : Str)) = false := by decide) : DE X G (.Name x pos) (rd i) := by
  refine PEi (pe_var (i := i) hN hv hd hcd) fun σ H Q ⟨w, s, W, h⟩ => ?_
  unfold rd at h
  split at h
  · rename_i d e
    obtain ⟨v, e1, h1⟩ := W.sl i _ e
    exact ⟨v, e1, h v w H .refl W h1⟩
  · rename_i xs e
    obtain ⟨v, e1, w', m, W', vd⟩ := W.know (d := .p (.lst xs)) e fun a l => by
      cases l with
      | lst h t => exact ⟨_, rfl, .p (.lst h (.inr rfl) (t.mono (.sub fun _ h => .inl h)))⟩
    exact ⟨v, e1, h v w' H m W' vd⟩
  · rename_i xs e
    obtain ⟨v, e1, w', m, W', vd⟩ := W.know (d := .dic xs) e fun a l => by
      cases l with
      | dic h t => exact ⟨_, rfl, .dic (.inl h) (.inr rfl) (t.mono (.sub fun _ h => .inl h))⟩
    exact ⟨v, e1, h v w' H m W' vd⟩
  · rename_i xs e
    obtain ⟨v, e1, w', m, W', vd⟩ := W.know (d := .dct xs) e fun a l => by
      cases l with
      | dct h t => exact ⟨_, rfl, .dct (.inl h) (.inr rfl) (t.mono (.sub fun _ h => .inl h))⟩
    exact ⟨v, e1, h v w' H m W' vd⟩
  · exact h.elim
theorem de_cst {e : Expr} {v : V} {d : P} (he : PE X e (tC v)) (hd : ∀ H J, Td X.K false H J d v) : DE X G e (cst (.p d)) :=
  PEi he fun σ H Q ⟨w, s, W, h⟩ => h v w H .refl W (.p (hd H _))
theorem de_int {i : Int} {j} {pos : Pos} : DE X G (.Constant (.int i) j pos) (cst (.p (.int i))) := de_cst pe_int fun _ _ => .int _
theorem de_bl {b : Bool} {j} {pos : Pos} : DE X G (.Constant (.bool b) j pos) (cst (.p (.bl b))) := de_cst pe_bl fun _ _ => .bl _
theorem de_non {j} {pos : Pos} : DE X G (.Constant .none j pos) (cst (.p .non)) := de_cst pe_non fun _ _ => .non
theorem de_str {x : Str} {j} {pos : Pos} : DE X G (.Constant (.str x) j pos) (cst (.p (.str x))) := de_cst pe_str fun _ _ => .str _
/-- a module's constant -/
structure Cst (K : PySem.W.Frag) (mg : Str → Option Value) (x : Str) (d : D) : Prop where
  at_ : ∃ u v, mg x = some u ∧ RelV v u ∧ ∀ H w, Vd K H w d v
theorem de_glob {x : Str} {d : D} {pos : Pos} (c : Cst X.K X.mg x d) (hg : Gl X x) (hd : (x == ("__debug__" : Str)) = false := by decide) : DE X G (.Name x pos) (cst d) := by
  obtain ⟨u, v, hm, r, t⟩ := c.at_
  exact PEi (pe_glob hg hm r hd) fun σ H Q ⟨w, s, W, h⟩ => h v w H .refl W (t _ _)

/-! ### rules by values -/
/-- what a rule of one value asks -/
def U1 (X : Cx) (G : Env) (r : V → Hp → VK → Prop) (g : D → Ev) : Prop := ∀ σ w s H d v Q, Wd X.K X.mg G.B w σ s H → Vd X.K H w d v → Post X G (RD X) σ w H (g d s) Q → r v H Q
def U2 (X : Cx) (G : Env) (r : R2) (g : D → D → Ev) : Prop := ∀ σ w s H d e v u Q, Wd X.K X.mg G.B w σ s H → Vd X.K H w d v → Vd X.K H w e u → Post X G (RD X) σ w H (g d e s) Q → r v u H Q
def UA (X : Cx) (G : Env) (r : List V → Hp → VK → Prop) (g : List D → Ev) : Prop := ∀ σ w s H ds vs Q, Wd X.K X.mg G.B w σ s H → VdL X.K H w ds vs → Post X G (RD X) σ w H (g ds s) Q → r vs H Q
def bnd2 (f g : Ev) (k : D → D → Ev) : Ev := bnd f fun a => bnd g fun b => k a b
theorem de_op {op : Operator} {r : R2} {k : D → D → Ev} {a b : Expr} {f g : Ev} {pos : Pos} (ho : OpR X (binaryOp op) r) (hk : U2 X G r k) (ha : DE X G a f) (hb : DE X G b g) : DE X G (.BinOp a op b pos) (bnd2 f g k) :=
  PEi (pe_op ho ha hb) fun σ H Q ⟨w, s, W, h⟩ => ⟨w, s, W, h.bind fun a s1 v w1 H1 m1 W1 r1 h1 => ⟨w1, s1, W1, h1.bind fun b s2 u w2 H2 m2 W2 r2 h2 => hk _ _ _ _ _ _ _ _ _ W2 (r1.mono m2) r2 h2⟩⟩
theorem de_cmp {op : CmpOp} {r : R2} {k : D → D → Ev} {a b : Expr} {f g : Ev} {pos : Pos} (ho : OpR X (compareOp op) r) (hm : behindInMarks op b = false) (hk : U2 X G r k) (ha : DE X G a f) (hb : DE X G b g) : DE X G (.Compare a [op] [b] pos) (bnd2 f g k) :=
  PEi (pe_cmpR ho ha hb hm) fun σ H Q ⟨w, s, W, h⟩ => ⟨w, s, W, h.bind fun a s1 v w1 H1 m1 W1 r1 h1 => ⟨w1, s1, W1, h1.bind fun b s2 u w2 H2 m2 W2 r2 h2 => hk _ _ _ _ _ _ _ _ _ W2 (r1.mono m2) r2 h2⟩⟩
end
end Dz
namespace Dz
open PySem PySem.Spec PyProof.Rows L2
section
variable {X : Cx} {G : Env} {σ : L2.St} {w w1 : Wo} {H H1 : Hp} {s s1 : Sta}
theorem TdL.app {K : PySem.W.Frag} {J : Addr → Prop} : ∀ {xs ys : List P} {vs us : List V}, TdL K false H J xs vs → TdL K false H J ys us → TdL K false H J (xs ++ ys) (vs ++ us)
  | _, _, _, _, .nil, h => h
  | _, _, _, _, .cons a t, h => .cons a (TdL.app t h)
theorem TdL.rep {K : PySem.W.Frag} {J : Addr → Prop} {xs : List P} {vs : List V} (h : TdL K false H J xs vs) : ∀ n : Nat, TdL K false H J (List.replicate n xs).flatten (List.replicate n vs).flatten
  | 0 => .nil
  | n + 1 => by
    rw [List.replicate_succ, List.replicate_succ, List.flatten_cons, List.flatten_cons]
    exact h.app (TdL.rep h n)
theorem TdL.at {K : PySem.W.Frag} {J : Addr → Prop} : ∀ {xs : List P} {vs : List V} {i : Nat} {x : P}, TdL K false H J xs vs → xs[i]? = some x → ∃ v, vs[i]? = some v ∧ Td K false H J x v
  | _, _, 0, _, .cons a t, e => by simp at e; subst e; exact ⟨_, by simp, a⟩
  | _, _, i + 1, _, .cons a t, e => by simpa using TdL.at (i := i) t (by simpa using e)
  | _, _, _, _, .nil, e => by simp at e
theorem TdL.take {K : PySem.W.Frag} {J : Addr → Prop} : ∀ {xs : List P} {vs : List V} (n : Nat), TdL K false H J xs vs → TdL K false H J (xs.take n) (vs.take n)
  | _, _, 0, _ => by simp; exact .nil
  | _, _, n + 1, .nil => by simp; exact .nil
  | _, _, n + 1, .cons a t => by simp; exact .cons a (TdL.take n t)
theorem TdL.drop {K : PySem.W.Frag} {J : Addr → Prop} : ∀ {xs : List P} {vs : List V} (n : Nat), TdL K false H J xs vs → TdL K false H J (xs.drop n) (vs.drop n)
  | _, _, 0, h => by simpa using h
  | _, _, n + 1, .nil => by simp; exact .nil
  | _, _, n + 1, .cons a t => by simpa using TdL.drop n t
/-- something new -/
theorem Post.new {p : Addr} {o : HO} {d : D} {Q : VK} (W : Wd X.K X.mg G.B w σ s H) (np : H p = none) (hd : Mono w H (w.add p) (upd H p o) → Vd X.K (upd H p o) (w.add p) d (.ref p)) (h : Post X G (RD X) σ w H (.ok d s) Q) : Q (.ref p) (upd H p o) := by
  have m : Mono w H (w.add p) (upd H p o) := (Ext.fresh np).mono W.snd
  exact h _ _ _ m (W.fresh np) (hd m)
theorem Post.newT {p : Addr} {xs : List P} {vs : List V} {Q : VK} (W : Wd X.K X.mg G.B w σ s H) (t : TdL X.K false H w.I xs vs) (np : H p = none) (h : Post X G (RD X) σ w H (.ok (.p (.tup xs)) s) Q) : Q (.ref p) (upd H p (.tup vs)) :=
  Post.new W np (fun m => .p (.tup upd_same (t.mono m.imm))) h
theorem Post.newL {p : Addr} {xs : List P} {vs : List V} {Q : VK} (W : Wd X.K X.mg G.B w σ s H) (t : TdL X.K false H w.I xs vs) (np : H p = none) (h : Post X G (RD X) σ w H (.ok (.p (.lst xs)) s) Q) : Q (.ref p) (upd H p (.lst vs)) :=
  Post.new W np (fun m => .p (.lst upd_same (.inr rfl) (t.mono m.imm))) h
/-! ### operators -/
def bad1 : Ev := fun _ => .bad
/-- d, if the test holds -/
def okIf (c : Bool) (d : D) : Ev := fun s => if c = true then .ok d s else .bad
def addD : D → D → Ev
  | .p (.int i), .p (.int j) => cst (.p (.int (i + j)))
  | .p (.str x), .p (.str y) => okIf (decide (x.length + y.length ≤ sizeLine)) (.p (.str (x ++ y)))
  | .p (.tup xs), .p (.tup ys) => okIf (decide (xs.length + ys.length ≤ sizeLine)) (.p (.tup (xs ++ ys)))
  | .p (.lst xs), .p (.lst ys) => okIf (decide (xs.length + ys.length ≤ sizeLine)) (.p (.lst (xs ++ ys)))
  | _, _ => bad1
def rAddI : R2 := rI0 fun i j => .int (i + j)
def rAddS : R2 := fun x y H Q => ∃ i j, x = .str i ∧ y = .str j ∧ i.length + j.length ≤ sizeLine ∧ Q (.str (i ++ j)) H
def rAddD (K : PySem.W.Frag) : R2 := fun x y H Q => (rAddI x y H Q ∨ rAddS x y H Q) ∨ (rCatA K x y H Q ∨ rCat x y H Q)
theorem op_addD : OpR X (binaryOp .Add) (rAddD X.K) := (op_add.or op_add_str).or (op_catA.or op_cat)
theorem okIf_post {c : Bool} {d : D} {Q : VK} (h : Post X G (RD X) σ w H (okIf c d s) Q) : c = true ∧ Post X G (RD X) σ w H (.ok d s) Q := by
  unfold okIf at h
  split at h
  · rename_i e; exact ⟨e, h⟩
  · exact h.elim
theorem Td.lstAt {K : PySem.W.Frag} {J : Addr → Prop} {xs : List P} {v : V} (t : Td K false H J (.lst xs) v) : ∃ a vs, v = .ref a ∧ H a = some (.lst vs) ∧ TdL K false H J xs vs := by
  cases t with
  | lst h _ t => exact ⟨_, _, rfl, h, t⟩
theorem u_add : U2 X G (rAddD X.K) addD := by
  intro σ w s H d e v u Q W hd he h
  cases hd with
  | p td =>
    cases he with
    | p te =>
      cases td with
      | int i =>
        cases te with
        | int j => exact .inl (.inl ⟨i, j, rfl, rfl, Post.here W (.p (.int _)) h⟩)
        | _ => exact h.elim
      | str i =>
        cases te with
        | str j =>
          obtain ⟨c, h⟩ := okIf_post h
          exact .inl (.inr ⟨i, j, rfl, rfl, of_decide_eq_true c, Post.here W (.p (.str _)) h⟩)
        | _ => exact h.elim
      | non => exact h.elim
      | bl _ => cases te <;> exact h.elim
      | lst h1 h2 t1 =>
        cases te with
        | lst h3 h4 t2 =>
          obtain ⟨c, h⟩ := okIf_post h
          have c := of_decide_eq_true c
          refine .inr (.inr ⟨_, _, _, _, rfl, rfl, h1, h3, by rw [← t1.len, ← t2.len]; exact c, fun p np => Post.newL W (t1.app t2) np h⟩)
        | _ => exact h.elim
      | @tup a1 xs vs h1 t1 =>
        have td : Td X.K false H w.I (.tup xs) (.ref a1) := .tup h1 t1
        cases e1 : te with
        | tup h3 t2 =>
          obtain ⟨c, h⟩ := okIf_post h
          have c := of_decide_eq_true c
          refine .inr (.inl ⟨_, _, _, _, rfl, rfl, .of h1, .of h3, by rw [← t1.len, ← t2.len]; exact c, fun z => ?_, fun _ z => ?_, fun _ _ p np => Post.newT W (t1.app t2) np h⟩)
          · subst z; cases t1; exact Post.here W (.p te) h
          · subst z; cases t2; rw [List.append_nil] at h; exact Post.here W (.p td) h
        | tupK hq _ _ => cases hq
        | _ => exact h.elim
      | tupK hq _ _ => cases hq
    | _ => cases td <;> exact h.elim
  | _ => exact h.elim
theorem de_add {a b : Expr} {f g : Ev} {pos : Pos} (ha : DE X G a f) (hb : DE X G b g) : DE X G (.BinOp a .Add b pos) (bnd2 f g addD) := de_op op_addD u_add ha hb

/-! ### ints -/
def intOp (c : Int → Int → Bool) (g : Int → Int → P) : D → D → Ev
  | .p (.int i), .p (.int j) => okIf (c i j) (.p (g i j))
  | _, _ => bad1
theorem u_int {C : Int → Int → Prop} {gv : Int → Int → V} {c : Int → Int → Bool} {g : Int → Int → P} (hc : ∀ i j, c i j = true → C i j) (hg : ∀ i j H J, Td X.K false H J (g i j) (gv i j)) : U2 X G (rI C gv) (intOp c g) := by
  intro σ w s H d e v u Q W hd he h
  cases hd with
  | p td =>
    cases he with
    | p te =>
      cases td with
      | int i =>
        cases te with
        | int j =>
          obtain ⟨e, h⟩ := okIf_post h
          exact ⟨i, j, rfl, rfl, hc _ _ e, Post.here W (.p (hg _ _ _ _)) h⟩
        | _ => exact h.elim
      | _ => cases te <;> exact h.elim
    | _ => cases td <;> exact h.elim
  | _ => exact h.elim
theorem u_int0 {gv : Int → Int → V} {g : Int → Int → P} (hg : ∀ i j H J, Td X.K false H J (g i j) (gv i j)) : U2 X G (rI0 gv) (intOp (fun _ _ => true) g) := fun σ w s H d e v u Q W hd he h => by
  obtain ⟨i, j, e1, e2, _, q⟩ := u_int (C := fun _ _ => True) (fun _ _ _ => trivial) hg σ w s H d e v u Q W hd he h
  exact ⟨i, j, e1, e2, q⟩
def subD : D → D → Ev := intOp (fun _ _ => true) fun i j => .int (i - j)
def cMul (i j : Int) : Bool := (decide (-(2 ^ 64) < i) && decide (i < 2 ^ 64)) || (decide (-(2 ^ 64) < j) && decide (j < 2 ^ 64))
def fdivD : D → D → Ev := intOp (fun _ j => decide (j ≠ 0) && decide (j.natAbs < 1073741824)) fun i j => .int (i.fdiv j)
def modD : D → D → Ev := intOp (fun _ j => decide (j ≠ 0)) fun i j => .int (i.fmod j)
def cPow (i j : Int) : Bool := decide (0 ≤ j) && decide (j ≤ 1000000) && decide (i.natAbs < 2 ^ 64)
def powD : D → D → Ev := intOp cPow fun i j => .int (i ^ j.toNat)
def shlD : D → D → Ev := intOp cPow fun i j => .int (i * 2 ^ j.toNat)
theorem de_sub {a b : Expr} {f g : Ev} {pos : Pos} (ha : DE X G a f) (hb : DE X G b g) : DE X G (.BinOp a .Sub b pos) (bnd2 f g subD) := de_op op_sub (u_int0 fun _ _ _ _ => .int _) ha hb
theorem de_fdiv {a b : Expr} {f g : Ev} {pos : Pos} (ha : DE X G a f) (hb : DE X G b g) : DE X G (.BinOp a .FloorDiv b pos) (bnd2 f g fdivD) := de_op op_fdivN (u_int (fun i j h => by simpa [CDivN] using h) fun _ _ _ _ => .int _) ha hb
theorem de_mod {a b : Expr} {f g : Ev} {pos : Pos} (ha : DE X G a f) (hb : DE X G b g) : DE X G (.BinOp a .Mod b pos) (bnd2 f g modD) := de_op op_modN (u_int (fun i j h => by simpa using h) fun _ _ _ _ => .int _) ha hb
theorem cPow_ok {i j : Int} (h : cPow i j = true) : CPow i j := by simp [cPow] at h; exact ⟨h.1.1, h.1.2, h.2⟩
theorem de_pow {a b : Expr} {f g : Ev} {pos : Pos} (ha : DE X G a f) (hb : DE X G b g) : DE X G (.BinOp a .Pow b pos) (bnd2 f g powD) := de_op op_pow (u_int (fun i j h => cPow_ok h) fun _ _ _ _ => .int _) ha hb
theorem de_shl {a b : Expr} {f g : Ev} {pos : Pos} (ha : DE X G a f) (hb : DE X G b g) : DE X G (.BinOp a .LShift b pos) (bnd2 f g shlD) := de_op op_shl (u_int (fun i j h => cPow_ok h) fun _ _ _ _ => .int _) ha hb

/-- a tuple times an int -/
def rRepP (K : PySem.W.Frag) : R2 := fun x y H Q => ∃ l k xs, x = .ref l ∧ y = .int k ∧ SqT K H l xs ∧ xs ≠ [] ∧ -(2 ^ 63) ≤ k ∧ xs.length * k.toNat ≤ sizeLine ∧ (k = 1 → Q (.ref l) H) ∧ (k ≠ 1 → ∀ p, H p = none → Q (.ref p) (upd H p (.tup (List.replicate k.toNat xs).flatten)))
theorem tup_mul1 (l : Addr) (items : Array Value) (n : Nat) (dd : Option Addr) (sl : Array (Option Value)) (u : Tok) :
    Meets (Builtin.«tuple.__mul__» ⟨[.ref l, .int 1 u], []⟩) (fun _ R s => s.heap.get? l = some { cls := .type "tuple", dict := dd, data := .seq items n, slots := sl } ∧ R (.ok (.ret (Value.ref l))) s) :=
  .of_wp fun prog w A R s h => by
    obtain ⟨hp, g, d, tk, os⟩ := s
    obtain ⟨hl, h⟩ := h
    have f1 := AutoSeq1.idx_int
    have z0 : (decide ((1 : Int) < -(2 ^ 63)) || decide ((1 : Int) ≥ 2 ^ 63)) = false := by decide
    have z1 : (items.isEmpty || (1 : Int) == 1) = true := by simp
    wp_walk using wpAny_loadPart' hl
    repeat (first
      | (refine wpAny_ite_false (decide_eq_false (by rw [z0]; exact Bool.false_ne_true)) ?_; wp_walk using wpAny_loadPart' hl)
      | (refine wpAny_ite_true (decide_eq_true z1) ?_; wp_walk using wpAny_loadPart' hl))
    exact ⟨_, rfl, h⟩
theorem tup_mul0 (l : Addr) (items : Array Value) (n : Nat) (dd : Option Addr) (sl : Array (Option Value)) (x : Int) (u : Tok) (c0 : (decide (x < -(2 ^ 63)) || decide (x ≥ 2 ^ 63)) = false) (c1 : (items.isEmpty || x == 1) = false) (c2 : (decide (x ≤ 0) || items.isEmpty) = true) :
    Meets (Builtin.«tuple.__mul__» ⟨[.ref l, .int x u], []⟩) (fun _ R s => s.heap.get? l = some { cls := .type "tuple", dict := dd, data := .seq items n, slots := sl } ∧
      R (.ok (.ret (Value.ref s.heap.objs.size))) { s with heap := s.heap.push { cls := Value.type "tuple", data := Data.seq #[] }, toks := s.toks }) :=
  .of_wp fun prog w A R s h => by
    obtain ⟨hp, g, d, tk, os⟩ := s
    obtain ⟨hl, h⟩ := h
    have f1 := AutoSeq1.idx_int
    wp_walk using wpAny_loadPart' hl
    repeat (first
      | (refine wpAny_ite_false (decide_eq_false (by rw [c0]; exact Bool.false_ne_true)) ?_; wp_walk using wpAny_loadPart' hl)
      | (refine wpAny_ite_false (decide_eq_false (by rw [c1]; exact Bool.false_ne_true)) ?_; wp_walk using wpAny_loadPart' hl)
      | (refine wpAny_ite_true (decide_eq_true c2) ?_; wp_walk using wpAny_loadPart' hl)
      | (refine wpAny_ite_false (decide_eq_false (by decide)) ?_; wp_walk using wpAny_loadPart' hl))
    exact ⟨_, rfl, h⟩
theorem op_repP : OpR X (binaryOp .Mult) (rRepP X.K) := by
  intro pins s σ H x y v u Q I rx ry h
  obtain ⟨l, k, xs, rfl, rfl, hT, hne, h1, hz, q1, q2⟩ := h
  cases rx
  obtain ⟨tk, rfl⟩ := ry
  obtain ⟨js, rv, ⟨⟨oc, od, dat, osl⟩, hob, ec, m, ed⟩, hsz⟩ := I.tuple hT
  simp only at ec ed
  subst ec ed
  have ll : js.length = xs.length := rv.length.symm
  have hz' : xs.length * k.toNat ≤ 16777216 := hz
  by_cases e1 : k = 1
  · subst e1
    refine wpAny_binaryOp_repeat_ref (T := "tuple") (U := "int") (by decide) ⟨_, hob, rfl⟩ (fun s' => typeIs_int s' 1 tk) noFill_tuple_mul F.fills_int_mul F.slot_int_rmul repeat_tuple F.slot_int_index.lookup
      (call_meets F.slot_int_rmul (typeIs_int s 1 tk) F.entry_int_rmul (F.args_int_rmul_2 _ _) (int_rmul_tuple 1 tk l js.toArray m od osl)
        ⟨hob, rfl, ⟨_, hob, rfl⟩, call_meets F.slot_tuple_mul ⟨_, hob, rfl⟩ F.entry_tuple_mul (F.args_tuple_mul_2 _ _) (tup_mul1 l js.toArray m od osl tk) ⟨hob, ?_⟩⟩)
    exact ⟨.ref l, H, I, rfl, q1 rfl⟩
  have jne : js ≠ [] := fun z => hne (by
    rw [z] at ll
    exact List.eq_nil_of_length_eq_zero ll.symm)
  have jem : js.toArray.isEmpty = false := by
    cases js with
    | nil => exact absurd rfl jne
    | cons _ _ => rfl
  have sz0 : js.toArray.size = xs.length := by rw [List.size_toArray, ll]
  have nx : 1 ≤ xs.length := by
    cases xs with
    | nil => exact absurd rfl hne
    | cons _ _ => simp
  by_cases g2 : k ≤ 0
  · have z0 : (decide (k < -(2 ^ 63)) || decide (k ≥ 2 ^ 63)) = false := by
      rw [decide_eq_false (show ¬ k < -(2 ^ 63) by omega), decide_eq_false (show ¬ k ≥ 2 ^ 63 by omega)] <;> rfl
    have z1 : (js.toArray.isEmpty || k == 1) = false := by
      rw [jem, Bool.false_or]
      exact beq_eq_false_iff_ne.mpr e1
    have z2 : (decide (k ≤ 0) || js.toArray.isEmpty) = true := by rw [decide_eq_true g2]; rfl
    refine wpAny_binaryOp_repeat_ref (T := "tuple") (U := "int") (by decide) ⟨_, hob, rfl⟩ (fun s' => typeIs_int s' k tk) noFill_tuple_mul F.fills_int_mul F.slot_int_rmul repeat_tuple F.slot_int_index.lookup
      (call_meets F.slot_int_rmul (typeIs_int s k tk) F.entry_int_rmul (F.args_int_rmul_2 _ _) (int_rmul_tuple k tk l js.toArray m od osl)
        ⟨hob, rfl, ⟨_, hob, rfl⟩, call_meets F.slot_tuple_mul ⟨_, hob, rfl⟩ F.entry_tuple_mul (F.args_tuple_mul_2 _ _) (tup_mul0 l js.toArray m od osl k tk z0 z1 z2) ⟨hob, ?_⟩⟩)
    have q2 := q2 e1
    rw [show k.toNat = 0 by omega, List.replicate_zero, List.flatten_nil] at q2
    refine ⟨.ref s.heap.objs.size, _, I.laid (t' := s.toks) (o := .tup []) (fun b ob q => Heap.get?_push_of_some _ q) (Nat.le_refl _) ?_, rfl, q2 _ (I.hok.fresh (Nat.le_refl _))⟩
    exact ⟨by show 0 ≤ sizeLine; decide, _, .nil, IsTup.new _ _⟩
  have g2 : 2 ≤ k := by omega
  have hk : k = (k.toNat : Int) := by omega
  have kb : k.toNat ≤ xs.length * k.toNat := Nat.le_mul_of_pos_left _ nx
  have kk : k ≤ 16777216 := by omega
  have pr : ((js.toArray.size : Nat) : Int) * k ≤ 16777216 := by
    rw [sz0, hk, ← Int.natCast_mul]
    omega
  have fl : (List.replicate k.toNat js).flatten.length ≤ sizeLine := by
    rw [PyProof.Rows.lm_len_rep_flat, ll, Nat.mul_comm]
    exact hz
  have z0 : (decide (k < -(2 ^ 63)) || decide (k ≥ 2 ^ 63)) = false := by
    rw [decide_eq_false (show ¬ k < -(2 ^ 63) by omega), decide_eq_false (show ¬ k ≥ 2 ^ 63 by omega)] <;> rfl
  have z1 : (js.toArray.isEmpty || k == 1) = false := by
    rw [jem, Bool.false_or]
    exact beq_eq_false_iff_ne.mpr e1
  have z2 : (decide (k ≤ 0) || js.toArray.isEmpty) = false := by
    rw [jem, Bool.or_false]
    exact decide_eq_false (show ¬ k ≤ 0 by omega)
  have z4 : Builtin.Tuple.tupleTooMany (((js.toArray.size : Nat) : Int) * k) = false := by
    unfold Builtin.Tuple.tupleTooMany
    rw [sizeLine_eq]
    exact decide_eq_false (by omega)
  refine wpAny_binaryOp_repeat_ref (T := "tuple") (U := "int") (by decide) ⟨_, hob, rfl⟩ (fun s' => typeIs_int s' k tk) noFill_tuple_mul F.fills_int_mul F.slot_int_rmul repeat_tuple F.slot_int_index.lookup
    (call_meets F.slot_int_rmul (typeIs_int s k tk) F.entry_int_rmul (F.args_int_rmul_2 _ _) (int_rmul_tuple k tk l js.toArray m od osl)
      ⟨hob, rfl, ⟨_, hob, rfl⟩, call_meets F.slot_tuple_mul ⟨_, hob, rfl⟩ F.entry_tuple_mul (F.args_tuple_mul_2 _ _) (tuple_mulW l js.toArray m od osl k tk z0 z1 z2 (by omega) z4 (by rw [size_rep, List.size_toArray]; exact fl)) ⟨hob, ?_⟩⟩)
  rw [size_rep]
  refine ⟨.ref s.heap.objs.size, _, I.laid (t' := s.toks) (o := .tup (List.replicate k.toNat xs).flatten) (fun b ob q => Heap.get?_push_of_some _ q) (Nat.le_refl _) ?_, rfl, q2 e1 _ (I.hok.fresh (Nat.le_refl _))⟩
  exact ⟨by rw [PyProof.Rows.lm_len_rep_flat, Nat.mul_comm]; exact hz, _, rv.rep k.toNat, IsTup.new _ _⟩
def mulD : D → D → Ev
  | .p (.int i), .p (.int j) => okIf (cMul i j) (.p (.int (i * j)))
  | .p (.tup xs), .p (.int k) => okIf (!xs.isEmpty && decide (-(2 ^ 63) ≤ k) && decide (xs.length * k.toNat ≤ sizeLine)) (.p (.tup (List.replicate k.toNat xs).flatten))
  | .p (.lst xs), .p (.int k) => okIf (decide (-(2 ^ 63) ≤ k) && decide (k < 2 ^ 63) && decide (xs.length * k.toNat ≤ sizeLine)) (.p (.lst (List.replicate k.toNat xs).flatten))
  | _, _ => bad1
def rMulI : R2 := rI CMul fun i j => .int (i * j)
def rMulD (K : PySem.W.Frag) : R2 := fun x y H Q => rMulI x y H Q ∨ (rRepP K x y H Q ∨ rRep x y H Q)
theorem u_mul : U2 X G (rMulD X.K) mulD := by
  intro σ w s H d e v u Q W hd he h
  cases hd with
  | p td =>
    cases he with
    | p te =>
      cases td with
      | int i =>
        cases te with
        | int j =>
          obtain ⟨c, h⟩ := okIf_post h
          refine .inl ⟨i, j, rfl, rfl, ?_, Post.here W (.p (.int _)) h⟩
          simpa [CMul, cMul] using c
        | _ => exact h.elim
      | lst h1 h2 t1 =>
        cases te with
        | int k =>
          obtain ⟨c, h⟩ := okIf_post h
          simp only [Bool.and_eq_true, decide_eq_true_eq] at c
          exact .inr (.inr ⟨_, k, _, rfl, rfl, h1, c.1.1, c.1.2, by rw [← t1.len]; exact c.2, fun p np => Post.newL W (t1.rep _) np h⟩)
        | _ => exact h.elim
      | @tup a1 xs vs h1 t1 =>
        cases te with
        | int k =>
          obtain ⟨c, h⟩ := okIf_post h
          simp only [Bool.and_eq_true, decide_eq_true_eq, Bool.not_eq_true', List.isEmpty_eq_false_iff] at c
          refine .inr (.inl ⟨_, k, vs, rfl, rfl, .of h1, fun z => c.1.1 (by subst z; cases t1; rfl), c.1.2, by rw [← t1.len]; exact c.2, fun z => ?_, fun _ p np => Post.newT W (t1.rep _) np h⟩)
          subst z
          rw [show ((1 : Int).toNat) = 1 from rfl, List.replicate_one, List.flatten_cons, List.flatten_nil, List.append_nil] at h
          exact Post.here W (.p (.tup h1 t1)) h
        | _ => exact h.elim
      | tupK hq _ _ => cases hq
      | _ => cases te <;> exact h.elim
    | _ => cases td <;> exact h.elim
  | _ => exact h.elim
theorem de_mul {a b : Expr} {f g : Ev} {pos : Pos} (ha : DE X G a f) (hb : DE X G b g) : DE X G (.BinOp a .Mult b pos) (bnd2 f g mulD) := de_op (op_mul.or (op_repP.or op_rep)) u_mul ha hb
def negD : D → Ev
  | .p (.int i) => cst (.p (.int (-i)))
  | _ => bad1
theorem de_neg {a : Expr} {f : Ev} {pos : Pos} (ha : DE X G a f) : DE X G (.UnaryOp .USub a pos) (bnd f negD) :=
  PEi (pe_un un_neg ha) fun σ H Q ⟨w, s, W, h⟩ => ⟨w, s, W, h.bind fun a s1 v w1 H1 m1 W1 r1 h1 => by
    cases r1 with
    | p t =>
      cases t with
      | int i => exact ⟨i, rfl, Post.here W1 (.p (.int _)) h1⟩
      | _ => exact h1.elim
    | _ => exact h1.elim⟩
end
end Dz
namespace Dz
open PySem PySem.Spec PyProof.Rows L2
/-! ### what a value shows -/
/-- an item of a module's tuple -/
def kitem : P → D
  | .tup xs => .kt xs
  | x => .p x
def seqOf (d : D) (s : Sta) : Option (List D) := match d with
  | .p (.lst xs) => some (xs.map .p)
  | .p (.tup xs) => some (xs.map .p)
  | .fz xs => some (xs.map .p)
  | .kt xs => some (xs.map kitem)
  | .loc n => match s.st with
    | some S => match S[n]? with
      | some (.lst ds) => some ds
      | some (.tup ds) => some ds
      | _ => none
    | none => none
  | _ => none
def dicOf (d : D) (s : Sta) : Option (List (Key × D)) := match d with
  | .dic kvs => some (kvs.map fun kv => (kv.1, .p kv.2))
  | .loc n => match s.st with
    | some S => match S[n]? with
      | some (.dic ds) => some ds
      | _ => none
    | none => none
  | _ => none
def dctOf (d : D) (s : Sta) : Option (List (List Key × D)) := match d with
  | .dct kvs => some (kvs.map fun kv => (kv.1, .p kv.2))
  | .loc n => match s.st with
    | some S => match S[n]? with
      | some (.dct ds) => some ds
      | _ => none
    | none => none
  | _ => none
section
variable {X : Cx} {G : Env} {σ : L2.St} {w w1 : Wo} {H H1 : Hp} {s s1 : Sta} {K : PySem.W.Frag} {mg : Str → Option Value} {B : Ba}
theorem TdL.vd : ∀ {xs : List P} {vs : List V}, TdL K false H w.I xs vs → VdL K H w (xs.map .p) vs
  | _, _, .nil => .nil
  | _, _, .cons a t => .cons (.p a) (TdL.vd t)
theorem kitems : ∀ {xs : List P} {vs : List V}, (∀ H, TdL K true H (fun _ => False) xs vs) → VdL K H w (xs.map kitem) vs
  | [], _, h => by cases h H; exact .nil
  | x :: xs, [], h => by cases h H
  | x :: xs, v :: vs, h => by
    refine .cons ?_ (kitems fun H => by cases h H with | cons _ t => exact t)
    cases x with
    | tup ys =>
      cases h (fun _ => Option.none) with
      | cons a t =>
        cases a with
        | tup z _ => cases z
        | @tupK a _ us _ h1 t1 => exact .kt h1 fun H' => t1.mono ⟨fun _ _ z => z.elim, fun _ _ e => by cases e⟩
    | lst ys =>
      cases h H with
      | cons a t => cases a with | lst _ z _ => exact z.elim
    | non => cases h H with | cons a t => cases a; exact .p .non
    | bl _ => cases h H with | cons a t => cases a; exact .p (.bl _)
    | int _ => cases h H with | cons a t => cases a; exact .p (.int _)
    | str _ => cases h H with | cons a t => cases a; exact .p (.str _)
theorem TdK.vd {κ : Type} {xs : List (κ × P)} {vs : List (κ × V)} (h : TdK K false H w.I xs vs) : VdK K H w (xs.map fun kv => (kv.1, .p kv.2)) vs := by
  induction h with
  | nil => exact .nil
  | cons a _ ih => exact .cons (.p a) ih
theorem VdL.len : ∀ {xs : List D} {vs : List V}, VdL K H w xs vs → xs.length = vs.length
  | _, _, .nil => rfl
  | _, _, .cons _ t => by simp [VdL.len t]
theorem VdL.at : ∀ {xs : List D} {vs : List V} {i : Nat} {x : D}, VdL K H w xs vs → xs[i]? = some x → ∃ v, vs[i]? = some v ∧ Vd K H w x v
  | _, _, 0, _, .cons a t, e => by simp at e; subst e; exact ⟨_, by simp, a⟩
  | _, _, i + 1, _, .cons a t, e => by simpa using VdL.at (i := i) t (by simpa using e)
  | _, _, _, _, .nil, e => by simp at e
theorem VdK.val {κ : Type} [DecidableEq κ] {xs : List (κ × D)} {vs : List (κ × V)} (h : VdK K H w xs vs) (k : κ) : (xs.find? (fun kv => decide (kv.1 = k)) = none ∧ valV vs k = none) ∨ ∃ kv v, xs.find? (fun kv => decide (kv.1 = k)) = some kv ∧ valV vs k = some v ∧ Vd K H w kv.2 v := by
  induction h with
  | nil => exact .inl ⟨rfl, rfl⟩
  | @cons k' x xs v vs h1 _ ih =>
    by_cases e : k' = k
    · exact .inr ⟨(k', x), v, by simp [List.find?_cons, e], valV_pos e, h1⟩
    · rw [List.find?_cons, valV_neg (p := (k', v)) e]
      simpa [e] using ih
theorem seq_at {d : D} {v : V} {ds : List D} (W : Wd K mg B w σ s H) (h : Vd K H w d v) (e : seqOf d s = some ds) : ∃ a vs, v = .ref a ∧ (SqL K H a vs ∨ SqT K H a vs) ∧ VdL K H w ds vs := by
  unfold seqOf at e
  cases h with
  | p t =>
    cases t with
    | lst h1 h2 t => simp at e; subst e; exact ⟨_, _, rfl, .inl (.of h1), t.vd⟩
    | tup h1 t => simp at e; subst e; exact ⟨_, _, rfl, .inr (.of h1), t.vd⟩
    | tupK hq _ _ => cases hq
    | _ => simp at e
  | fz h1 t => simp at e; subst e; exact ⟨_, _, rfl, .inl h1.sq, t.vd⟩
  | kt h1 h2 => simp at e; subst e; exact ⟨_, _, rfl, .inr (h1 _), kitems h2⟩
  | @loc n a hn =>
    have st := W.sto
    cases es : s.st with
    | none => rw [es] at e; simp at e
    | some S =>
      rw [es] at e st
      simp only at e
      split at e
      · rename_i ds' em
        cases e
        cases st.2 n a _ hn em with
        | lst h1 t => exact ⟨_, _, rfl, .inl (.of h1), t⟩
      · rename_i ds' em
        cases e
        cases st.2 n a _ hn em with
        | tup h1 t => exact ⟨_, _, rfl, .inr (.of h1), t⟩
      · cases e
  | dic => simp at e
  | dct => simp at e
theorem dic_at {d : D} {v : V} {ds : List (Key × D)} (W : Wd K mg B w σ s H) (h : Vd K H w d v) (e : dicOf d s = some ds) : ∃ a vs, v = .ref a ∧ Rd H a (.dK vs) ∧ VdK K H w ds vs := by
  unfold dicOf at e
  cases h with
  | dic h1 h2 t => simp at e; subst e; exact ⟨_, _, rfl, h1, t.vd⟩
  | @loc n a hn =>
    have st := W.sto
    cases es : s.st with
    | none => rw [es] at e; simp at e
    | some S =>
      rw [es] at e st
      simp only at e
      split at e
      · rename_i ds' em
        cases e
        cases st.2 n a _ hn em with
        | dic h1 t => exact ⟨_, _, rfl, .inl h1, t⟩
      · cases e
  | p t => simp at e
  | kt => simp at e
  | fz => simp at e
  | dct => simp at e
theorem dic_atL {n : Nat} {v : V} {ds : List (Key × D)} (W : Wd K mg B w σ s H) (h : Vd K H w (.loc n) v) (e : dicOf (.loc n) s = some ds) : ∃ a vs, v = .ref a ∧ H a = some (.dK vs) ∧ VdK K H w ds vs := by
  unfold dicOf at e
  cases h with
  | @loc n a hn =>
    have st := W.sto
    cases es : s.st with
    | none => rw [es] at e; simp at e
    | some S =>
      rw [es] at e st
      simp only at e
      split at e
      · rename_i ds' em
        cases e
        cases st.2 n a _ hn em with
        | dic h1 t => exact ⟨_, _, rfl, h1, t⟩
      · cases e
theorem dct_at {d : D} {v : V} {ds : List (List Key × D)} (W : Wd K mg B w σ s H) (h : Vd K H w d v) (e : dctOf d s = some ds) : ∃ a vs, v = .ref a ∧ Rd H a (.dT vs) ∧ VdK K H w ds vs := by
  unfold dctOf at e
  cases h with
  | dct h1 h2 t => simp at e; subst e; exact ⟨_, _, rfl, h1, t.vd⟩
  | @loc n a hn =>
    have st := W.sto
    cases es : s.st with
    | none => rw [es] at e; simp at e
    | some S =>
      rw [es] at e st
      simp only at e
      split at e
      · rename_i ds' em
        cases e
        cases st.2 n a _ hn em with
        | dct h1 t => exact ⟨_, _, rfl, .inl h1, t⟩
      · cases e
  | p t => simp at e
  | kt => simp at e
  | fz => simp at e
  | dic => simp at e

/-! ### comparisons -/
/-- as data, to be compared -/
def asP : D → Option P
  | .p x => some x
  | .kt xs => some (.tup xs)
  | _ => none
theorem asP_td {d : D} {x : P} {v : V} (h : Vd K H w d v) (e : asP d = some x) : Td K true H w.I x v := by
  cases h with
  | p t => cases e; exact t.weak
  | kt h1 h2 => cases e; exact .tupK rfl h1 ((h2 H).mono (.sub fun _ z => z.elim))
  | _ => cases e
def unP : D → Option P
  | .p x => some x
  | _ => none
/-- the items of what is walked or looked into -/
theorem VdL.td : ∀ {ds : List D} {xs : List P} {vs : List V}, VdL K H w ds vs → ds.mapM unP = some xs → TdL K false H w.I xs vs
  | [], xs, _, .nil, e => by simp at e; subst e; exact .nil
  | d :: ds, xs, _, .cons a t, e => by
    rw [List.mapM_cons] at e
    cases d with
    | p x =>
      simp only [unP, Option.pure_def, Option.bind_eq_bind, Option.bind_some] at e
      cases e2 : ds.mapM unP with
      | none => rw [e2] at e; simp at e
      | some ys =>
        rw [e2] at e
        simp at e
        subst e
        cases a with
        | p a => exact .cons a (VdL.td t e2)
    | _ => simp [unP] at e
/-- .. also a list or tuple of the store -/
def asPS (d : D) (s : Sta) : Option P := match d with
  | .loc n => match s.st with
    | some S => match S[n]? with
      | some (.lst ds) => (ds.mapM unP).map .lst
      | some (.tup ds) => (ds.mapM unP).map .tup
      | _ => none
    | none => none
  | d => asP d
theorem asPS_td {d : D} {x : P} {v : V} (W : Wd K mg B w σ s H) (h : Vd K H w d v) (e : asPS d s = some x) : Td K true H (fun _ => True) x v := by
  have old : ∀ {d : D}, Vd K H w d v → asP d = some x → Td K true H (fun _ => True) x v := fun h e => (asP_td h e).mono (.sub fun _ _ => trivial)
  cases h with
  | @loc n a hn =>
    have so := W.sto
    unfold asPS at e
    simp only at e
    split at e
    · rename_i S es
      rw [es] at so
      split at e
      · rename_i ds em
        obtain ⟨xs, ex, rfl⟩ := Option.map_eq_some_iff.mp e
        cases so.2 n a _ hn em with
        | lst h1 t => exact .lst h1 trivial (((t.td ex).weak).mono (.sub fun _ _ => trivial))
      · rename_i ds em
        obtain ⟨xs, ex, rfl⟩ := Option.map_eq_some_iff.mp e
        cases so.2 n a _ hn em with
        | tup h1 t => exact .tup h1 (((t.td ex).weak).mono (.sub fun _ _ => trivial))
      · cases e
    · cases e
  | p t => exact old (.p t) e
  | kt h1 h2 => exact old (.kt h1 h2) e
  | fz h1 h3 => cases e
  | dic h1 h2 h3 => cases e
  | dct h1 h2 h3 => cases e
def cmpP (neg : Bool) (d e : D) (s : Sta) : Option Bool := (asPS d s).bind fun x => (asPS e s).bind fun y => if min (deep x) (deep y) ≤ 60 then some (if neg then !eqP x y else eqP x y) else none
def eqD : D → D → Ev := fun d e s => match cmpP false d e s with
  | some b => .ok (.p (.bl b)) s
  | none => .bad
def neD : D → D → Ev := fun d e s => match cmpP true d e s with
  | some b => .ok (.p (.bl b)) s
  | none => .bad
theorem cmpP_at {neg b : Bool} {d e : D} {v u : V} (W : Wd K mg B w σ s H) (hd : Vd K H w d v) (he : Vd K H w e u) (c : cmpP neg d e s = some b) : ∃ x y, Td K true H (fun _ => True) x v ∧ Td K true H (fun _ => True) y u ∧ min (deep x) (deep y) ≤ 60 ∧ b = if neg then !eqP x y else eqP x y := by
  unfold cmpP at c
  cases e1 : asPS d s with
  | none => rw [e1] at c; cases c
  | some x =>
    cases e2 : asPS e s with
    | none => rw [e1, e2] at c; cases c
    | some y =>
      rw [e1, e2] at c
      simp only [Option.bind_some] at c
      split at c
      · rename_i z; cases c; exact ⟨x, y, asPS_td W hd e1, asPS_td W he e2, z, rfl⟩
      · cases c
theorem u_eq : U2 X G (rEq X.K) eqD := by
  intro σ w s H d e v u Q W hd he h
  unfold eqD at h
  split at h
  · rename_i b c
    obtain ⟨x, y, t1, t2, z, rfl⟩ := cmpP_at W hd he c
    exact ⟨_, _, _, t1, t2, z, Post.here W (.p (.bl _)) h⟩
  · exact h.elim
theorem u_ne : U2 X G (rNe X.K) neD := by
  intro σ w s H d e v u Q W hd he h
  unfold neD at h
  split at h
  · rename_i b c
    obtain ⟨x, y, t1, t2, z, rfl⟩ := cmpP_at W hd he c
    exact ⟨_, _, _, t1, t2, z, Post.here W (.p (.bl _)) h⟩
  · exact h.elim
variable {a b c : Expr} {f g h : Ev} {pos : Pos}
theorem de_eq (hu : X.A.units + 64 < cLine) (ha : DE X G a f) (hb : DE X G b g) : DE X G (.Compare a [.Eq] [b] pos) (bnd2 f g eqD) := de_cmp (op_eqP hu) (nomark _) u_eq ha hb
theorem de_ne (hu : X.A.units + 64 < cLine) (ha : DE X G a f) (hb : DE X G b g) : DE X G (.Compare a [.NotEq] [b] pos) (bnd2 f g neD) := de_cmp (op_neP hu) (nomark _) u_ne ha hb
def ltD : D → D → Ev := intOp (fun _ _ => true) fun i j => .bl (decide (i < j))
def leD : D → D → Ev := intOp (fun _ _ => true) fun i j => .bl (decide (i ≤ j))
def gtD : D → D → Ev := intOp (fun _ _ => true) fun i j => .bl (decide (j < i))
def geD : D → D → Ev := intOp (fun _ _ => true) fun i j => .bl (decide (j ≤ i))
theorem de_lt (ha : DE X G a f) (hb : DE X G b g) : DE X G (.Compare a [.Lt] [b] pos) (bnd2 f g ltD) := de_cmp op_lt (nomark _) (u_int0 fun _ _ _ _ => .bl _) ha hb
theorem de_le (ha : DE X G a f) (hb : DE X G b g) : DE X G (.Compare a [.LtE] [b] pos) (bnd2 f g leD) := de_cmp op_le (nomark _) (u_int0 fun _ _ _ _ => .bl _) ha hb
theorem de_gt (ha : DE X G a f) (hb : DE X G b g) : DE X G (.Compare a [.Gt] [b] pos) (bnd2 f g gtD) := de_cmp op_gt (nomark _) (u_int0 fun _ _ _ _ => .bl _) ha hb
theorem de_ge (ha : DE X G a f) (hb : DE X G b g) : DE X G (.Compare a [.GtE] [b] pos) (bnd2 f g geD) := de_cmp op_ge (nomark _) (u_int0 fun _ _ _ _ => .bl _) ha hb
/-- is None, is True -/
def isNon : D → Bool
  | .p .non => true
  | _ => false
def isD : D → D → Ev
  | d, .p .non => cst (.p (.bl (isNon d)))
  | .p (.bl x), .p (.bl y) => cst (.p (.bl (decide (x = y))))
  | _, _ => bad1
def isntD : D → D → Ev
  | d, .p .non => cst (.p (.bl (!isNon d)))
  | .p (.bl x), .p (.bl y) => cst (.p (.bl (!decide (x = y))))
  | _, _ => bad1
theorem non_dec {d : D} {v : V} (h : Vd K H w d v) : decide (v = .non) = isNon d := by
  cases h with
  | p t => cases t <;> rfl
  | _ => rfl
def rIsD : R2 := fun x y H Q => (y = .non ∧ Q (.bl (decide (x = .non))) H) ∨ ∃ a b, x = .bl a ∧ y = .bl b ∧ Q (.bl (decide (a = b))) H
def rIsntD : R2 := fun x y H Q => (y = .non ∧ Q (.bl (!decide (x = .non))) H) ∨ ∃ a b, x = .bl a ∧ y = .bl b ∧ Q (.bl (!decide (a = b))) H
theorem u_is : U2 X G rIsD isD := by
  intro σ w s H d e v u Q W hd he h
  unfold isD at h
  split at h
  · cases he with | p te => cases te; exact .inl ⟨rfl, by rw [non_dec hd]; exact Post.here W (.p (.bl _)) h⟩
  · cases hd with | p td => cases td; cases he with | p te => cases te; exact .inr ⟨_, _, rfl, rfl, Post.here W (.p (.bl _)) h⟩
  · exact h.elim
theorem u_isnt : U2 X G rIsntD isntD := by
  intro σ w s H d e v u Q W hd he h
  unfold isntD at h
  split at h
  · cases he with | p te => cases te; exact .inl ⟨rfl, by rw [non_dec hd]; exact Post.here W (.p (.bl _)) h⟩
  · cases hd with | p td => cases td; cases he with | p te => cases te; exact .inr ⟨_, _, rfl, rfl, Post.here W (.p (.bl _)) h⟩
  · exact h.elim
theorem de_is (ha : DE X G a f) (hb : DE X G b g) : DE X G (.Compare a [.Is] [b] pos) (bnd2 f g isD) := de_cmp (op_isN.or op_is_bl) (nomark _) u_is ha hb
theorem de_isnt (ha : DE X G a f) (hb : DE X G b g) : DE X G (.Compare a [.IsNot] [b] pos) (bnd2 f g isntD) := de_cmp (op_notN.or op_isnot_bl) (nomark _) u_isnt ha hb
end
end Dz
namespace Dz
open PySem PySem.Spec PyProof.Rows L2 PySem.SeqAt
section
variable {X : Cx} {G : Env} {σ : L2.St} {w w1 : Wo} {H H1 : Hp} {s s1 : Sta} {K : PySem.W.Frag} {mg : Str → Option Value} {B : Ba}
/-! ### in -/
/-- whether an item is == to d -/
noncomputable def isEqU (K : PySem.W.Frag) (H : Hp) (J : Addr → Prop) (d : P) (u : Value) : Bool := @decide (∃ x v, Td K false H J x v ∧ RelV v u ∧ eqP x d = true) (Classical.propDecidable _)
theorem isEqU_of {pins : List (Addr × Obj)} {sh : Shared} {J : Addr → Prop} {d x : P} {v : V} {u : Value} (I : Inv X pins σ H sh) (t : Td X.K false H J x v) (r : RelV v u) : isEqU X.K H J d u = eqP x d := by
  unfold isEqU
  cases e : eqP x d with
  | true => exact @decide_eq_true _ (Classical.propDecidable _) ⟨x, v, t, r, e⟩
  | false =>
    refine @decide_eq_false _ (Classical.propDecidable _) fun ⟨x', v', t', r', e'⟩ => ?_
    cases r.inj r'
    cases Td.uniq I _ _ _ t t'
    rw [e] at e'; cases e'
theorem any_isEq {pins : List (Addr × Obj)} {sh : Shared} {J : Addr → Prop} {d : P} (I : Inv X pins σ H sh) : ∀ {xs : List P} {vs : List V} {us : List Value}, TdL X.K false H J xs vs → Vals vs us → us.any (isEqU X.K H J d) = xs.any fun x => eqP x d
  | _, _, _, .nil, .nil => rfl
  | _, _, _, .cons a t, .cons r q => by rw [List.any_cons, List.any_cons, isEqU_of I a r, any_isEq I t q]
theorem each_isEq {pins : List (Addr × Obj)} {sh : Shared} {J : Addr → Prop} {d : P} {y : V} {v : Value} {A : Around} (I : Inv X pins σ H sh) (td : Td X.K false H J d y) (rd : RelV y v) (hu : A.units + 60 < cLine) :
    ∀ {xs : List P} {vs : List V} {us : List Value}, min (deep d) (deepL xs) ≤ 60 → TdL X.K false H J xs vs → Vals vs us → ∀ u ∈ us, EqAt A sh u v (isEqU X.K H J d u)
  | _, _, _, _, .nil, .nil => fun u hu => by cases hu
  | x :: xs, _, u :: us, hd, .cons a t, .cons r q => fun u' hm => by
    have e1 : deep x ≤ deepL (x :: xs) := Nat.le_max_left _ _
    have e2 : deepL xs ≤ deepL (x :: xs) := Nat.le_max_right _ _
    rcases List.mem_cons.mp hm with rfl | hm
    · rw [isEqU_of I a r]
      exact eq_at I 60 _ _ _ _ _ _ A (by omega) a td r rd hu
    · exact each_isEq I td rd hu (by omega) t q u' hm
/-- x in a list or tuple of data -/
def rInP (K : PySem.W.Frag) (neg : Bool) : R2 := fun x y H Q => ∃ (J : Addr → Prop) (d : P) (xs : List P) (a : Addr) (vs : List V), y = .ref a ∧ (SqL K H a vs ∨ SqT K H a vs) ∧ TdL K false H J xs vs ∧ Td K false H J d x ∧ min (deep d) (deepL xs) ≤ 60 ∧
  Q (.bl (if neg then !(xs.any fun z => eqP z d) else xs.any fun z => eqP z d)) H
theorem op_inP (hu : X.A.units + 64 < cLine) : OpR X (compareOp .In) (rInP X.K false) := by
  intro pins s σ H x y v u Q I rx ry h
  obtain ⟨J, d, xs, a, vs, rfl, hq, tl, td, hd, q⟩ := h
  cases ry
  have hu' : X.A.in1.units + 60 < cLine := by show X.A.units + 1 + 60 < _; omega
  rcases hq with hq | hq
  · obtain ⟨its, r, pl, hz⟩ := I.list hq
    refine in_listAt (isEqU X.K H J d) pl.isList (fun u' hm => each_isEq I td rx hu' hd tl r u' (by simpa using hm)) ⟨.bl _, H, I, rfl, ?_⟩
    rw [List.any_toArray, any_isEq I tl r]
    exact q
  · obtain ⟨its, r, pl, hz⟩ := I.tuple hq
    refine in_tupleAt (isEqU X.K H J d) pl (fun u' hm => each_isEq I td rx hu' hd tl r u' (by simpa using hm)) ⟨.bl _, H, I, rfl, ?_⟩
    rw [List.any_toArray, any_isEq I tl r]
    exact q
theorem op_notInP (hu : X.A.units + 64 < cLine) : OpR X (compareOp .NotIn) (rInP X.K true) := by
  intro pins s σ H x y v u Q I rx ry h
  obtain ⟨J, d, xs, a, vs, rfl, hq, tl, td, hd, q⟩ := h
  cases ry
  have hu' : X.A.in1.units + 60 < cLine := by show X.A.units + 1 + 60 < _; omega
  rcases hq with hq | hq
  · obtain ⟨its, r, pl, hz⟩ := I.list hq
    refine notIn_listAt (isEqU X.K H J d) pl.isList (fun u' hm => each_isEq I td rx hu' hd tl r u' (by simpa using hm)) ⟨.bl _, H, I, rfl, ?_⟩
    rw [List.any_toArray, any_isEq I tl r]
    exact q
  · obtain ⟨its, r, pl, hz⟩ := I.tuple hq
    refine notIn_tupleAt (isEqU X.K H J d) pl (fun u' hm => each_isEq I td rx hu' hd tl r u' (by simpa using hm)) ⟨.bl _, H, I, rfl, ?_⟩
    rw [List.any_toArray, any_isEq I tl r]
    exact q
/-- a key of a dict -/
def keyP : P → Option Key
  | .int i => some (.inl i)
  | .str x => some (.inr x)
  | _ => none
def keysP : P → Option (List Key)
  | .tup xs => xs.mapM keyP
  | _ => none
def rInK (neg : Bool) : R2 := fun x y H Q => ∃ a o, y = .ref a ∧ DGet H a x o ∧ Q (.bl (if neg then !o.isSome else o.isSome)) H
theorem op_inK (hu : X.A.units + 64 < cLine) : OpR X (compareOp .In) (rInK false) := by
  intro pins s σ H x y v u Q I rx ry h
  obtain ⟨a, o, rfl, g, q⟩ := h
  cases ry
  exact d_in (by omega) I g rx fun s' I' => ⟨.bl _, H, I', rfl, q⟩
theorem op_notInK (hu : X.A.units + 64 < cLine) : OpR X (compareOp .NotIn) (rInK true) := by
  intro pins s σ H x y v u Q I rx ry h
  obtain ⟨a, o, rfl, g, q⟩ := h
  cases ry
  exact d_notIn (by omega) I g rx fun s' I' => ⟨.bl _, H, I', rfl, q⟩
theorem op_notIn_sign' : OpR X (compareOp .NotIn) (fun x y H Q => ∃ (c : Nat) (z : Str), x = .str ⟨#[c]⟩ ∧ y = .str z ∧ Q (.bl (!decide (c ∈ z.cps.toList))) H) := op_notIn_sign
def rInS (neg : Bool) : R2 := fun x y H Q => ∃ (c : Nat) (z : Str), x = .str ⟨#[c]⟩ ∧ y = .str z ∧ Q (.bl (if neg then !decide (c ∈ z.cps.toList) else decide (c ∈ z.cps.toList))) H
/-- what a dict has for a key -/
def getK {κ : Type} [DecidableEq κ] {α : Type} (kvs : List (κ × α)) (k : κ) : Option α := (kvs.find? fun kv => decide (kv.1 = k)).map (·.2)
def inB (d e : D) (s : Sta) : Option Bool := match d, e with
  | .p (.str x), .p (.str z) => match x.cps.toList with
    | [c] => some (decide (c ∈ z.cps.toList))
    | _ => none
  | .p x, e => match seqOf e s with
    | some ds => match ds.mapM unP with
      | some xs => if min (deep x) (deepL xs) ≤ 60 then some (xs.any fun z => eqP z x) else none
      | none => none
    | none => match dicOf e s with
      | some kvs => match keyP x with
        | some k => some (getK kvs k).isSome
        | none => none
      | none => match dctOf e s with
        | some kvs => match keysP x with
          | some k => some (getK kvs k).isSome
          | none => none
        | none => none
  | _, _ => none
def inD (neg : Bool) : D → D → Ev := fun d e s => match inB d e s with
  | some b => .ok (.p (.bl (if neg then !b else b))) s
  | none => .bad
theorem key_v {x : P} {k : Key} {v : V} {J : Addr → Prop} (t : Td K false H J x v) (e : keyP x = some k) : v = kV k := by
  cases t <;> simp [keyP] at e <;> subst e <;> rfl
theorem keys_v {J : Addr → Prop} : ∀ {xs : List P} {ks : List Key} {vs : List V}, TdL K false H J xs vs → xs.mapM keyP = some ks → vs = ks.map kV
  | [], ks, _, .nil, e => by simp at e; subst e; rfl
  | x :: xs, ks, _, .cons a t, e => by
    rw [List.mapM_cons] at e
    cases e1 : keyP x with
    | none => rw [e1] at e; simp at e
    | some k =>
      cases e2 : xs.mapM keyP with
      | none => rw [e1, e2] at e; simp at e
      | some ks' =>
        rw [e1, e2] at e
        simp at e
        subst e
        rw [key_v a e1, keys_v t e2]
        rfl
theorem keysP_at {J : Addr → Prop} {x : P} {k : List Key} {v : V} (t : Td K false H J x v) (e : keysP x = some k) : ∃ b, v = .ref b ∧ H b = some (.tup (k.map kV)) := by
  cases t with
  | tup h1 t => exact ⟨_, rfl, by rw [← keys_v t e]; exact h1⟩
  | tupK hq _ _ => cases hq
  | _ => cases e
theorem getK_v {κ : Type} [DecidableEq κ] {xs : List (κ × D)} {vs : List (κ × V)} (h : VdK K H w xs vs) (k : κ) : (getK xs k = none ∧ valV vs k = none) ∨ ∃ d v, getK xs k = some d ∧ valV vs k = some v ∧ Vd K H w d v := by
  rcases h.val k with ⟨h1, h2⟩ | ⟨kv, v, h1, h2, h3⟩
  · exact .inl ⟨by unfold getK; rw [h1]; rfl, h2⟩
  · exact .inr ⟨kv.2, v, by unfold getK; rw [h1]; rfl, h2, h3⟩
theorem getK_some {κ : Type} [DecidableEq κ] {xs : List (κ × D)} {vs : List (κ × V)} (h : VdK K H w xs vs) (k : κ) : (valV vs k).isSome = (getK xs k).isSome := by
  rcases getK_v h k with ⟨h1, h2⟩ | ⟨_, _, h1, h2, _⟩ <;> rw [h1, h2] <;> rfl
def rInD (K : PySem.W.Frag) (neg : Bool) : R2 := fun x y H Q => rInS neg x y H Q ∨ (rInP K neg x y H Q ∨ rInK neg x y H Q)
theorem u_in (neg : Bool) : U2 X G (rInD X.K neg) (inD neg) := by
  intro σ w s H d e v u Q W hd he h
  unfold inD at h
  split at h
  · rename_i b eb
    have fin : ∀ {c : Bool}, c = (if neg then !b else b) → Q (.bl c) H := fun {c} z => by rw [z]; exact Post.here W (.p (.bl _)) h
    unfold inB at eb
    split at eb
    · rename_i x z
      split at eb
      · rename_i c ec
        cases eb
        have ex : x = ⟨#[c]⟩ := Str.ext' (by apply Array.toList_inj.mp; rw [ec])
        subst ex
        cases hd with
        | p t =>
          cases t
          cases he with
          | p t => cases t; exact .inl ⟨_, _, rfl, rfl, fin rfl⟩
      · cases eb
    · rename_i x e'
      cases hd with
      | @p x _ t =>
        split at eb
        · rename_i ds es
          split at eb
          · rename_i xs exs
            split at eb
            · rename_i hz
              cases eb
              obtain ⟨a, vs, rfl, hq, tl⟩ := seq_at W he es
              exact .inr (.inl ⟨w.I, x, xs, a, vs, rfl, hq, tl.td exs, t, hz, fin rfl⟩)
            · cases eb
          · cases eb
        · split at eb
          · rename_i kvs ek
            split at eb
            · rename_i k kk
              cases eb
              obtain ⟨a, vs, rfl, hq, tl⟩ := dic_at W he ek
              cases key_v t kk
              exact .inr (.inr ⟨a, _, rfl, .inl ⟨_, _, hq, rfl, rfl⟩, fin (by rw [getK_some tl])⟩)
            · cases eb
          · split at eb
            · rename_i kvs ek
              split at eb
              · rename_i k kk
                cases eb
                obtain ⟨a, vs, rfl, hq, tl⟩ := dct_at W he ek
                obtain ⟨c, rfl, hc⟩ := keysP_at t kk
                exact .inr (.inr ⟨a, _, rfl, .inr ⟨_, _, _, hq, rfl, hc, rfl⟩, fin (by rw [getK_some tl])⟩)
              · cases eb
            · cases eb
    · cases eb
  · exact h.elim
theorem op_inS (neg : Bool) : OpR X (compareOp (if neg then .NotIn else .In)) (rInS neg) := by
  cases neg
  · exact op_in_sign
  · exact op_notIn_sign
variable {a b c : Expr} {f g h : Ev} {pos : Pos}
theorem de_in (hu : X.A.units + 64 < cLine) (ha : DE X G a f) (hb : DE X G b g) (hm : behindInMarks .In b = false := by rfl) : DE X G (.Compare a [.In] [b] pos) (bnd2 f g (inD false)) := de_cmp ((op_inS false).or ((op_inP hu).or (op_inK hu))) hm (u_in false) ha hb
theorem de_notIn (hu : X.A.units + 64 < cLine) (ha : DE X G a f) (hb : DE X G b g) (hm : behindInMarks .NotIn b = false := by rfl) : DE X G (.Compare a [.NotIn] [b] pos) (bnd2 f g (inD true)) := de_cmp ((op_inS true).or ((op_notInP hu).or (op_notInK hu))) hm (u_in true) ha hb

/-! ### truth -/
def truB (d : D) (s : Sta) : Option Bool := match d with
  | .p .non => some false
  | .p (.bl b) => some b
  | .p (.int i) => some (i != 0)
  | .p (.str x) => if x.length ≤ sizeLine then some ((x.length : Int) != 0) else none
  | d => match seqOf d s with
    | some ds => some (!ds.isEmpty)
    | none => match d with
      | .loc n => (dicOf (.loc n) s).map fun kvs => !kvs.isEmpty
      | _ => none
theorem VdL.emp {ds : List D} {vs : List V} (t : VdL K H w ds vs) : ds.isEmpty = vs.isEmpty := by cases t <;> rfl
theorem VdK.emp {κ : Type} {ds : List (κ × D)} {vs : List (κ × V)} (t : VdK K H w ds vs) : ds.isEmpty = vs.isEmpty := by cases t <;> rfl
theorem tru_of {d : D} {v : V} {k : Bool} (W : Wd X.K X.mg G.B w σ s H) (hd : Vd X.K H w d v) (e : truB d s = some k) : TruV X.K v H k := by
  have gen : ∀ {d : D}, Vd X.K H w d v → (match seqOf d s with | some ds => some (!ds.isEmpty) | none => match d with | .loc n => (dicOf (.loc n) s).map fun kvs => !kvs.isEmpty | _ => none) = some k → TruV X.K v H k := fun {d} hd e => by
    split at e
    · rename_i ds es
      cases e
      obtain ⟨a, vs, rfl, hq, tl⟩ := seq_at W hd es
      rcases hq with hq | hq
      · exact .inl ⟨vs, hq, by rw [tl.emp]⟩
      · exact .inr (.inl ⟨vs, hq, by rw [tl.emp]⟩)
    · split at e
      · rename_i n es0
        obtain ⟨kvs, ek, rfl⟩ := Option.map_eq_some_iff.mp e
        obtain ⟨a, vs, rfl, hq, tl⟩ := dic_atL W hd ek
        exact .inr (.inr ⟨vs, hq, by rw [tl.emp]⟩)
      · cases e
  unfold truB at e
  split at e
  · cases e; cases hd with | p t => cases t; rfl
  · cases e; cases hd with | p t => cases t; rfl
  · cases e; cases hd with | p t => cases t; rfl
  · split at e
    · rename_i z; cases e; cases hd with | p t => cases t; exact ⟨z, rfl⟩
    · cases e
  · exact gen hd e
def truR (d : D) : Sta → Res Bool := fun s => match truB d s with
  | some b => .ok b s
  | none => .bad
/-- an expression as a test, by its truth -/
theorem dt_tru (ha : DE X G a f) (he : ∀ whole, isTrue a X.env whole = (do let v ← whole; standAt a.pos; holding [v] (truthy v)) := by intro _; rfl) : DT X G a (bnd f truR) :=
  PTi (pt_truth ha he) fun σ H Q ⟨w, s, W, h⟩ => ⟨w, s, W, h.bind fun d s1 v w1 H1 m1 W1 r1 h1 => by
    unfold truR at h1
    split at h1
    · rename_i k e
      exact ⟨k, tru_of W1 r1 e, Post.here (R := RB) W1 rfl h1⟩
    · exact h1.elim⟩
def isBl (d : D) : Sta → Res Bool := fun s => match d with
  | .p (.bl b) => .ok b s
  | _ => .bad
theorem blOf {d : D} {v : V} {Q : Bool → Hp → Prop} (W : Wd X.K X.mg G.B w σ s H) (hd : Vd X.K H w d v) (h : Post X G RB σ w H (isBl d s) Q) : ∃ k, v = .bl k ∧ Q k H := by
  unfold isBl at h
  split at h
  · cases hd with | p t => cases t; exact ⟨_, rfl, Post.here (R := RB) W rfl h⟩
  · exact h.elim
/-- an == and the like as a test -/
theorem dt_cmp {op : CmpOp} {r : R2} {k : D → D → Ev} (ho : OpR X (compareOp op) r) (hm : behindInMarks op b = false) (hk : U2 X G r k) (ha : DE X G a f) (hb : DE X G b g) : DT X G (.Compare a [op] [b] pos) (bnd (bnd2 f g k) isBl) :=
  PTi (pt_cmpR ho ha hb hm) fun σ H Q ⟨w, s, W, h⟩ => ⟨w, s, W, by
    have h : Post X G RB σ w H (bnd f (fun a s => bnd (bnd g fun b => k a b) isBl s) s) Q := by
      have : bnd (bnd2 f g k) isBl s = bnd f (fun a s => bnd (bnd g fun b => k a b) isBl s) s := by
        unfold bnd2 bnd
        cases f s <;> rfl
      rw [← this]; exact h
    refine h.bind fun a s1 v w1 H1 m1 W1 r1 h1 => ⟨w1, s1, W1, ?_⟩
    have h1 : Post X G RB σ w1 H1 (bnd g (fun b s => bnd (k a b) isBl s) s1) Q := by
      have : bnd (bnd g fun b => k a b) isBl s1 = bnd g (fun b s => bnd (k a b) isBl s) s1 := by
        unfold bnd
        cases g s1 <;> rfl
      rw [← this]; exact h1
    exact h1.bind fun b s2 u w2 H2 m2 W2 r2 h2 => hk _ _ _ _ _ _ _ _ _ W2 (r1.mono m2) r2 (h2.bind (R := RD X) fun d s3 x w3 H3 m3 W3 r3 h3 => blOf W3 r3 h3)⟩
theorem dt_eq (hu : X.A.units + 64 < cLine) (ha : DE X G a f) (hb : DE X G b g) : DT X G (.Compare a [.Eq] [b] pos) (bnd (bnd2 f g eqD) isBl) := dt_cmp (op_eqP hu) (nomark _) u_eq ha hb
theorem dt_ne (hu : X.A.units + 64 < cLine) (ha : DE X G a f) (hb : DE X G b g) : DT X G (.Compare a [.NotEq] [b] pos) (bnd (bnd2 f g neD) isBl) := dt_cmp (op_neP hu) (nomark _) u_ne ha hb
theorem dt_lt (ha : DE X G a f) (hb : DE X G b g) : DT X G (.Compare a [.Lt] [b] pos) (bnd (bnd2 f g ltD) isBl) := dt_cmp op_lt (nomark _) (u_int0 fun _ _ _ _ => .bl _) ha hb
theorem dt_le (ha : DE X G a f) (hb : DE X G b g) : DT X G (.Compare a [.LtE] [b] pos) (bnd (bnd2 f g leD) isBl) := dt_cmp op_le (nomark _) (u_int0 fun _ _ _ _ => .bl _) ha hb
theorem dt_gt (ha : DE X G a f) (hb : DE X G b g) : DT X G (.Compare a [.Gt] [b] pos) (bnd (bnd2 f g gtD) isBl) := dt_cmp op_gt (nomark _) (u_int0 fun _ _ _ _ => .bl _) ha hb
theorem dt_ge (ha : DE X G a f) (hb : DE X G b g) : DT X G (.Compare a [.GtE] [b] pos) (bnd (bnd2 f g geD) isBl) := dt_cmp op_ge (nomark _) (u_int0 fun _ _ _ _ => .bl _) ha hb
theorem dt_is (ha : DE X G a f) (hb : DE X G b g) : DT X G (.Compare a [.Is] [b] pos) (bnd (bnd2 f g isD) isBl) := dt_cmp (op_isN.or op_is_bl) (nomark _) u_is ha hb
theorem dt_isnt (ha : DE X G a f) (hb : DE X G b g) : DT X G (.Compare a [.IsNot] [b] pos) (bnd (bnd2 f g isntD) isBl) := dt_cmp (op_notN.or op_isnot_bl) (nomark _) u_isnt ha hb
theorem dt_in (hu : X.A.units + 64 < cLine) (ha : DE X G a f) (hb : DE X G b g) (hm : behindInMarks .In b = false := by rfl) : DT X G (.Compare a [.In] [b] pos) (bnd (bnd2 f g (inD false)) isBl) := dt_cmp ((op_inS false).or ((op_inP hu).or (op_inK hu))) hm (u_in false) ha hb
theorem dt_notIn (hu : X.A.units + 64 < cLine) (ha : DE X G a f) (hb : DE X G b g) (hm : behindInMarks .NotIn b = false := by rfl) : DT X G (.Compare a [.NotIn] [b] pos) (bnd (bnd2 f g (inD true)) isBl) := dt_cmp ((op_inS true).or ((op_notInP hu).or (op_notInK hu))) hm (u_in true) ha hb
end
end Dz
namespace Dz
open PySem PySem.Spec PyProof.Rows L2
section
variable {X : Cx} {G : Env} {σ : L2.St} {w w1 : Wo} {H H1 : Hp} {s s1 : Sta} {K : PySem.W.Frag} {mg : Str → Option Value} {B : Ba}
variable {a b c : Expr} {f g h : Ev} {pos : Pos} {rest : List Expr}
/-! ### and, or, not, if as values -/
def andE (f g : Ev) : Ev := bnd f fun d s => match truB d s with
  | some true => g s
  | some false => .ok d s
  | none => .bad
def orE (f g : Ev) : Ev := bnd f fun d s => match truB d s with
  | some true => .ok d s
  | some false => g s
  | none => .bad
def notE (f : Ev) : Ev := bnd f fun d s => match truB d s with
  | some b => .ok (.p (.bl (!b))) s
  | none => .bad
theorem de_one {op : BoolOp} (ha : DE X G a f) : DE X G (.BoolOp op [a] pos) f := pe_one ha
theorem de_and (ha : DE X G a f) (hb : DE X G (.BoolOp .And (b :: rest) pos) g) : DE X G (.BoolOp .And (a :: b :: rest) pos) (andE f g) :=
  PEi (pe_andT ha hb) fun σ H Q ⟨w, s, W, h⟩ => ⟨w, s, W, h.bind fun d s1 v w1 H1 m1 W1 r1 h1 => by
    split at h1
    · rename_i e; exact ⟨true, tru_of W1 r1 e, iteT ⟨w1, s1, W1, h1⟩⟩
    · rename_i e; exact ⟨false, tru_of W1 r1 e, iteF (Post.here W1 r1 h1)⟩
    · exact h1.elim⟩
theorem de_or (ha : DE X G a f) (hb : DE X G (.BoolOp .Or (b :: rest) pos) g) : DE X G (.BoolOp .Or (a :: b :: rest) pos) (orE f g) :=
  PEi (pe_orT ha hb) fun σ H Q ⟨w, s, W, h⟩ => ⟨w, s, W, h.bind fun d s1 v w1 H1 m1 W1 r1 h1 => by
    split at h1
    · rename_i e; exact ⟨true, tru_of W1 r1 e, iteT (Post.here W1 r1 h1)⟩
    · rename_i e; exact ⟨false, tru_of W1 r1 e, iteF ⟨w1, s1, W1, h1⟩⟩
    · exact h1.elim⟩
theorem de_not (ha : DE X G a f) : DE X G (.UnaryOp .Not a pos) (notE f) :=
  PEi (pe_notT ha) fun σ H Q ⟨w, s, W, h⟩ => ⟨w, s, W, h.bind fun d s1 v w1 H1 m1 W1 r1 h1 => by
    split at h1
    · rename_i k e; exact ⟨k, tru_of W1 r1 e, Post.here W1 (.p (.bl _)) h1⟩
    · exact h1.elim⟩
/-! ### as tests -/
def DW (X : Cx) (G : Env) (e : Expr) (f : Sta → Res Bool) : Prop := PW X e (tT X G f)
theorem PWi {X : Cx} {e : Expr} {t t' : TT} (h : PW X e t) (k : ∀ σ H Q, t' σ H Q → t σ H Q) : PW X e t' := ⟨fun wh pins s σ H Q I q => h.run wh pins s σ H Q I (k σ H Q q)⟩
def andT (f g : Sta → Res Bool) : Sta → Res Bool := bnd f fun b s => if b = true then g s else .ok false s
def orT (f g : Sta → Res Bool) : Sta → Res Bool := bnd f fun b s => if b = true then .ok true s else g s
def notT (f : Sta → Res Bool) : Sta → Res Bool := bnd f fun b s => .ok (!b) s
variable {ft gt : Sta → Res Bool}
theorem dt_w (h : DW X G a ft) : DT X G a ft := h.pt
theorem dw_and1 (ha : DT X G a ft) : DW X G (.BoolOp .And [a] pos) ft := pw_and1 ha
theorem dw_or1 (ha : DT X G a ft) : DW X G (.BoolOp .Or [a] pos) ft := pw_or1 ha
theorem dw_and (ha : DT X G a ft) (hb : DW X G (.BoolOp .And (b :: rest) pos) gt) : DW X G (.BoolOp .And (a :: b :: rest) pos) (andT ft gt) :=
  PWi (pw_and ha hb) fun σ H Q ⟨w, s, W, h⟩ => ⟨w, s, W, h.bind fun d s1 v w1 H1 m1 W1 r1 h1 => by
    cases (show d = v from r1)
    cases d with
    | true => exact iteT ⟨w1, s1, W1, h1⟩
    | false => exact iteF (Post.here (R := RB) W1 rfl h1)⟩
theorem dw_or (ha : DT X G a ft) (hb : DW X G (.BoolOp .Or (b :: rest) pos) gt) : DW X G (.BoolOp .Or (a :: b :: rest) pos) (orT ft gt) :=
  PWi (pw_or ha hb) fun σ H Q ⟨w, s, W, h⟩ => ⟨w, s, W, h.bind fun d s1 v w1 H1 m1 W1 r1 h1 => by
    cases (show d = v from r1)
    cases d with
    | true => exact iteT (Post.here (R := RB) W1 rfl h1)
    | false => exact iteF ⟨w1, s1, W1, h1⟩⟩
theorem dt_not (ha : DT X G a ft) : DT X G (.UnaryOp .Not a pos) (notT ft) :=
  PTi (pt_not ha) fun σ H Q ⟨w, s, W, h⟩ => ⟨w, s, W, h.bind fun d s1 v w1 H1 m1 W1 r1 h1 => by
    cases (show d = v from r1)
    exact Post.here (R := RB) W1 rfl h1⟩
def ifE (t : Sta → Res Bool) (f g : Ev) : Ev := bnd t fun b s => if b = true then f s else g s
theorem de_if (hc : DT X G c ft) (ha : DE X G a f) (hb : DE X G b g) : DE X G (.IfExp c a b pos) (ifE ft f g) :=
  PEi (pe_ifExp hc ha hb) fun σ H Q ⟨w, s, W, h⟩ => ⟨w, s, W, h.bind fun d s1 v w1 H1 m1 W1 r1 h1 => by
    cases (show d = v from r1)
    cases d with
    | true => exact iteT ⟨w1, s1, W1, h1⟩
    | false => exact iteF ⟨w1, s1, W1, h1⟩⟩
/-! ### a < b < c -/
def chainE (f : Ev) (k : D → D → Ev) (g : Ev) (k' : D → D → Ev) (h : Ev) : Ev := bnd f fun a => bnd g fun b => bnd (k a b) fun z s => match z with
  | .p (.bl true) => bnd h (fun c => k' b c) s
  | .p (.bl false) => .ok (.p (.bl false)) s
  | _ => .bad
theorem chain_at {op op' : CmpOp} {r r' : R2} {k k' : D → D → Ev} (hk : U2 X G r k) (hk' : U2 X G r' k') {Q : VK} (W : Wd X.K X.mg G.B w σ s H) (h' : Post X G (RD X) σ w H (chainE f k g k' h s) Q) : tChain r r' (tE X G f) (tE X G g) (tE X G h) σ H Q :=
  ⟨w, s, W, h'.bind fun a s1 v w1 H1 m1 W1 r1 h1 => ⟨w1, s1, W1, h1.bind fun b s2 u w2 H2 m2 W2 r2 h2 => hk _ _ _ _ _ _ _ _ _ W2 (r1.mono m2) r2 (h2.bind (R := RD X) fun z s3 x w3 H3 m3 W3 r3 h3 => by
    split at h3
    · cases r3 with
      | p t =>
        cases t
        exact ⟨true, rfl, iteT ⟨w3, s3, W3, h3.bind fun c s4 y w4 H4 m4 W4 r4 h4 => hk' _ _ _ _ _ _ _ _ _ W4 ((r2.mono m3).mono m4) r4 h4⟩⟩
    · cases r3 with
      | p t =>
        cases t
        exact ⟨false, rfl, iteF (Post.here W3 (.p (.bl _)) h3)⟩
    · exact h3.elim)⟩⟩
theorem de_chain {op op' : CmpOp} {r r' : R2} {k k' : D → D → Ev} (ho : OpR X (compareOp op) r) (hk : U2 X G r k) (ho' : OpR X (compareOp op') r') (hk' : U2 X G r' k') (ha : DE X G a f) (hb : DE X G b g) (hc : DE X G c h)
    (hm : lastMarks [op, op'] [b, c] = false := by with_unfolding_all rfl) : DE X G (.Compare a [op, op'] [b, c] pos) (chainE f k g k' h) :=
  PEi (pe_chain ho ho' ha hb hc hm) fun σ H Q ⟨w, s, W, h'⟩ => chain_at (op := op) (op' := op') hk hk' W h'
theorem dt_chain {op op' : CmpOp} {r r' : R2} {k k' : D → D → Ev} (ho : OpR X (compareOp op) r) (hk : U2 X G r k) (ho' : OpR X (compareOp op') r') (hk' : U2 X G r' k') (ha : DE X G a f) (hb : DE X G b g) (hc : DE X G c h)
    (hm : lastMarks [op, op'] [b, c] = false := by with_unfolding_all rfl) : DT X G (.Compare a [op, op'] [b, c] pos) (bnd (chainE f k g k' h) isBl) :=
  PTi (pt_chain ho ho' ha hb hc hm) fun σ H Q ⟨w, s, W, h'⟩ => chain_at (op := op) (op' := op') hk hk' W (h'.bind (R := RD X) fun d s1 v w1 H1 m1 W1 r1 h1 => blOf W1 r1 h1)
theorem u_lt : U2 X G (rI0 fun i j => .bl (decide (i < j))) ltD := u_int0 fun _ _ _ _ => .bl _
theorem u_le : U2 X G (rI0 fun i j => .bl (decide (i ≤ j))) leD := u_int0 fun _ _ _ _ => .bl _
theorem u_gt : U2 X G (rI0 fun i j => .bl (decide (j < i))) gtD := u_int0 fun _ _ _ _ => .bl _
theorem u_ge : U2 X G (rI0 fun i j => .bl (decide (j ≤ i))) geD := u_int0 fun _ _ _ _ => .bl _

/-! ### d[k] -/
def rIxK : R2 := fun x y H Q => ∃ a v, x = .ref a ∧ DGet H a y (some v) ∧ Q v H
theorem ix_dict (hu : X.A.units + 64 < cLine) : IxR X rIxK := by
  intro value slice pins s σ H x y v u Q I rx ry h hs
  obtain ⟨a, z, rfl, g, q⟩ := h
  cases rx
  have hT := dict_typeIs I g
  unfold subscriptTail
  refine wpAny_bind ?_
  rw [getitemInPython_of_ne hT.not_modules]
  refine wpAny_bind (wpAny_specialOf hT PySem.F.slot_dict_getitem.lookup ?_)
  have fin : wpAny (model X.prog X.w) X.A (subscripted slice false (.ref a) u) (fun r s' => wpAny (model X.prog X.w) X.A (letTemporaryGo value (.ref a) r >>= fun _ => pure r) (EP X pins σ Q) X.xe s') X.xe s := by
    rw [hs]
    exact wpAny_operating (d_getItem (by omega) I g ry fun w' s' I' rw' => wpAny_bind (wpAny_letTemporaryGo (wpAny_pure ⟨z, H, I', rw', q⟩)))
  first
    | exact wpAny_pure (wpAny_bind fin)
    | exact wpAny_bind (wpAny_pure (wpAny_bind fin))
    | exact wpAny_bind fin
def ixO (d e : D) (s : Sta) : Option D := match d, e with
  | .p (.str z), .p (.int i) => if z.length ≤ sizeLine then (atI z.cps.toList i).map fun c => .p (.str ⟨#[c]⟩) else none
  | d, .p e => match seqOf d s with
    | some ds => match e with
      | .int i => atI ds i
      | _ => none
    | none => match dicOf d s with
      | some kvs => (keyP e).bind fun k => getK kvs k
      | none => match dctOf d s with
        | some kvs => (keysP e).bind fun k => getK kvs k
        | none => none
  | _, _ => none
def ixD : D → D → Ev := fun d e s => match ixO d e s with
  | some x => .ok x s
  | none => .bad
theorem VdL.atI {ds : List D} {vs : List V} {i : Int} {d : D} (t : VdL K H w ds vs) (e : atI ds i = some d) : ∃ v, L2.atI vs i = some v ∧ Vd K H w d v := by
  unfold L2.atI at e ⊢
  rw [t.len] at e
  cases ej : ixN vs.length i with
  | none => rw [ej] at e; cases e
  | some j =>
    rw [ej] at e
    exact t.at e
def rIxD (K : PySem.W.Frag) : R2 := fun x y H Q => rIx K x y H Q ∨ rIxK x y H Q
theorem u_ix : U2 X G (rIxD X.K) ixD := by
  intro σ w s H d e v u Q W hd he h
  unfold ixD at h
  split at h
  · rename_i x ex
    unfold ixO at ex
    split at ex
    · split at ex
      · rename_i hz
        obtain ⟨c, hc, rfl⟩ := Option.map_eq_some_iff.mp ex
        cases hd with
        | p t =>
          cases t
          cases he with
          | p t => cases t; exact .inl (.inr (.inr ⟨_, _, c, rfl, rfl, hz, hc, Post.here W (.p (.str _)) h⟩))
      · cases ex
    · rename_i e'
      cases he with
      | @p x _ t =>
        split at ex
        · rename_i ds es
          obtain ⟨a, vs, rfl, hq, tl⟩ := seq_at W hd es
          split at ex
          · rename_i i
            cases t
            obtain ⟨z, hz, vz⟩ := tl.atI ex
            rcases hq with hq | hq
            · exact .inl (.inl ⟨a, vs, i, z, rfl, rfl, hq, hz, Post.here W vz h⟩)
            · exact .inl (.inr (.inl ⟨a, vs, i, z, rfl, rfl, hq, hz, Post.here W vz h⟩))
          · cases ex
        · split at ex
          · rename_i kvs ek
            obtain ⟨a, vs, rfl, hq, tl⟩ := dic_at W hd ek
            obtain ⟨k, kk, eg⟩ := Option.bind_eq_some_iff.mp ex
            rcases getK_v tl k with ⟨h1, _⟩ | ⟨d', z, h1, h2, h3⟩
            · rw [h1] at eg; cases eg
            · rw [h1] at eg; cases eg
              cases key_v t kk
              exact .inr ⟨a, z, rfl, by rw [← h2]; exact .inl ⟨_, _, hq, rfl, rfl⟩, Post.here W h3 h⟩
          · split at ex
            · rename_i kvs ek
              obtain ⟨a, vs, rfl, hq, tl⟩ := dct_at W hd ek
              obtain ⟨k, kk, eg⟩ := Option.bind_eq_some_iff.mp ex
              rcases getK_v tl k with ⟨h1, _⟩ | ⟨d', z, h1, h2, h3⟩
              · rw [h1] at eg; cases eg
              · rw [h1] at eg; cases eg
                obtain ⟨c, rfl, hc⟩ := keysP_at t kk
                exact .inr ⟨a, z, rfl, by rw [← h2]; exact .inr ⟨_, _, _, hq, rfl, hc, rfl⟩, Post.here W h3 h⟩
            · cases ex
    · cases ex
  · exact h.elim
theorem de_ix (hu : X.A.units + 64 < cLine) (ha : DE X G a f) (hb : DE X G b g) (hs : PlainIx b := by exact fun _ _ => rfl) : DE X G (.Subscript a b pos) (bnd2 f g ixD) :=
  PEi (pe_ix (ix_seq.or (ix_dict hu)) ha hb hs) fun σ H Q ⟨w, s, W, h⟩ => ⟨w, s, W, h.bind fun a s1 v w1 H1 m1 W1 r1 h1 => ⟨w1, s1, W1, h1.bind fun b s2 u w2 H2 m2 W2 r2 h2 => u_ix _ _ _ _ _ _ _ _ _ W2 (r1.mono m2) r2 h2⟩⟩
end
end Dz
namespace Dz
open PySem PySem.Spec PyProof.Rows L2
section
variable {X : Cx} {G : Env} {σ : L2.St} {w w1 w' : Wo} {H H1 H' : Hp} {s s1 : Sta} {K : PySem.W.Frag} {mg : Str → Option Value} {B : Ba}
variable {a b c e : Expr} {es : List Expr} {f g h : Ev} {pos p2 : Pos} {rest : List Expr}
/-! ### slices -/
def tO (X : Cx) (G : Env) (f : Sta → Res (Option Int)) : TO := fun σ H Q => ∃ w s, Wd X.K X.mg G.B w σ s H ∧ Post X G (fun _ _ (a b : Option Int) => a = b) σ w H (f s) Q
def DO (X : Cx) (G : Env) (e : Option Expr) (f : Sta → Res (Option Int)) : Prop := PO X e (tO X G f)
theorem POi {e : Option Expr} {t t' : TO} (h : PO X e t) (k : ∀ σ H Q, t' σ H Q → t σ H Q) : PO X e t' := ⟨fun pins s σ H Q I q => h.run pins s σ H Q I (k σ H Q q)⟩
def noPart : Sta → Res (Option Int) := fun s => .ok none s
def isPart (f : Ev) : Sta → Res (Option Int) := bnd f fun d s => match d with
  | .p (.int i) => .ok (some i) s
  | _ => .bad
theorem do_none : DO X G none noPart := POi po_none fun σ H Q ⟨w, s, W, h⟩ => Post.here (R := fun _ _ (a b : Option Int) => a = b) W rfl h
theorem do_some (ha : DE X G a f) : DO X G (some a) (isPart f) := POi (po_some ha) fun σ H Q ⟨w, s, W, h⟩ => ⟨w, s, W, h.bind fun d s1 v w1 H1 m1 W1 r1 h1 => by
  split at h1
  · cases r1 with | p t => cases t; exact ⟨_, rfl, Post.here (R := fun _ _ (a b : Option Int) => a = b) W1 rfl h1⟩
  · exact h1.elim⟩
def cut {α : Type} (xs : List α) (lo hi : Option Int) : List α := (xs.drop (HT.sIx xs.length 0 lo)).take (HT.sIx xs.length xs.length hi - HT.sIx xs.length 0 lo)
def slD : D → Option Int → Option Int → Ev
  | .p (.lst xs), lo, hi => cst (.p (.lst (cut xs lo hi)))
  | .fz xs, lo, hi => cst (.p (.lst (cut xs lo hi)))
  | .p (.tup xs), lo, hi => cst (.p (.tup (cut xs lo hi)))
  | .p (.str z), lo, hi => okIf (decide (z.length ≤ sizeLine)) (.p (.str (cutS z lo hi)))
  | _, _, _ => bad1
def rSlD (K : PySem.W.Frag) : V → Option Int → Option Int → Hp → VK → Prop := fun x lo hi H Q => rSlL K x lo hi H Q ∨ (rSlA K x lo hi H Q ∨ rSlS x lo hi H Q)
theorem TdL.cut {J : Addr → Prop} {xs : List P} {vs : List V} (t : TdL K false H J xs vs) (lo hi : Option Int) : TdL K false H J (Dz.cut xs lo hi) (cutV vs lo hi) := by
  unfold Dz.cut cutV
  rw [t.len]
  exact (t.drop _).take _
theorem u_sl {d : D} {v : V} {lo hi : Option Int} {Q : VK} (W : Wd X.K X.mg G.B w σ s H) (hd : Vd X.K H w d v) (h : Post X G (RD X) σ w H (slD d lo hi s) Q) : rSlD X.K v lo hi H Q := by
  cases hd with
  | p t =>
    cases t with
    | lst h1 h2 t => exact .inl ⟨_, _, rfl, .of h1, fun p np => Post.newL W (t.cut lo hi) np h⟩
    | @tup a xs vs h1 t =>
      refine .inr (.inl ⟨_, _, rfl, .of h1, fun z => ?_, fun _ p np => Post.newT W (t.cut lo hi) np h⟩)
      have e : Dz.cut xs lo hi = xs := by
        unfold Dz.cut
        rw [t.len, z.1, z.2, ← t.len]
        simp
      have h : Post X G (RD X) σ w H (.ok (.p (.tup (Dz.cut xs lo hi))) s) Q := h
      rw [e] at h
      exact Post.here W (.p (.tup h1 t)) h
    | str z =>
      obtain ⟨c, h⟩ := okIf_post h
      exact .inr (.inr ⟨_, rfl, of_decide_eq_true c, Post.here W (.p (.str _)) h⟩)
    | tupK hq _ _ => cases hq
    | _ => exact h.elim
  | fz h1 t => exact .inl ⟨_, _, rfl, h1.sq, fun p np => Post.newL W (t.cut lo hi) np h⟩
  | _ => exact h.elim
theorem SlR.or' {r r' : V → Option Int → Option Int → Hp → VK → Prop} (h : L2.SlR X r) (h' : L2.SlR X r') : L2.SlR X (fun x lo hi H Q => r x lo hi H Q ∨ r' x lo hi H Q) := h.or h'
def slE (f : Ev) (l u : Sta → Res (Option Int)) : Ev := bnd f fun d => bnd l fun lo => bnd u fun hi => slD d lo hi
theorem de_sl {lo hi : Option Expr} {l u : Sta → Res (Option Int)} (ha : DE X G a f) (hl : DO X G lo l) (hu : DO X G hi u) : DE X G (.Subscript a (.Slice lo hi none p2) pos) (slE f l u) :=
  PEi (pe_slice (sl_list.or (sl_tupA.or sl_str)) ha hl hu) fun σ H Q ⟨w, s, W, h⟩ => ⟨w, s, W, h.bind fun d s1 v w1 H1 m1 W1 r1 h1 => ⟨w1, s1, W1, h1.bind fun l s2 l' w2 H2 m2 W2 r2 h2 => by
    cases (show l = l' from r2)
    exact ⟨w2, s2, W2, h2.bind fun u s3 u' w3 H3 m3 W3 r3 h3 => by
      cases (show u = u' from r3)
      exact u_sl W3 ((r1.mono m2).mono m3) h3⟩⟩⟩
/-! ### argument lists -/
def nilA : Sta → Res (List D) := fun s => .ok [] s
def consA (f : Ev) (g : Sta → Res (List D)) : Sta → Res (List D) := bnd f fun d => bnd g fun ds s => .ok (d :: ds) s
def starA (f : Ev) (g : Sta → Res (List D)) : Sta → Res (List D) := bnd f fun d s => match seqOf d s with
  | some xs => bnd g (fun ds s => .ok (xs ++ ds) s) s
  | none => .bad
theorem VdL.app : ∀ {xs ys : List D} {vs us : List V}, VdL K H w xs vs → VdL K H w ys us → VdL K H w (xs ++ ys) (vs ++ us)
  | _, _, _, _, .nil, h => h
  | _, _, _, _, .cons a t, h => .cons a (VdL.app t h)
variable {fa : Sta → Res (List D)}
theorem da_nil : DA X G [] nilA := PAi pa_nil fun σ H Q ⟨w, s, W, h⟩ => Post.here (R := RA X) W VdL.nil h
theorem da_cons (ha : DE X G a f) (hr : DA X G es fa) (hs : starEach (a :: es) X.env = (false, eval a X.env) :: starEach es X.env := by rfl) : DA X G (a :: es) (consA f fa) :=
  PAi (pa_cons ha hr hs) fun σ H Q ⟨w, s, W, h⟩ => ⟨w, s, W, h.bind fun d s1 v w1 H1 m1 W1 r1 h1 => ⟨w1, s1, W1, h1.bind fun ds s2 vs w2 H2 m2 W2 r2 h2 => Post.here (R := RA X) W2 (VdL.cons (r1.mono m2) r2) h2⟩⟩
theorem da_star {p : Pos} (ha : DE X G a f) (hr : DA X G es fa) (hs : starEach (.Starred a p :: es) X.env = (true, eval a X.env) :: starEach es X.env := by rfl) : DA X G (.Starred a p :: es) (starA f fa) :=
  PAi (StX.pa_star ha hr hs) fun σ H Q ⟨w, s, W, h⟩ => ⟨w, s, W, h.bind fun d s1 v w1 H1 m1 W1 r1 h1 => by
    split at h1
    · rename_i xs es
      obtain ⟨p, vs, rfl, hq, tl⟩ := seq_at W1 r1 es
      exact ⟨p, vs, rfl, hq.symm, w1, s1, W1, h1.bind fun ds s2 us w2 H2 m2 W2 r2 h2 => Post.here (R := RA X) W2 ((tl.mono m2).app r2) h2⟩
    · exact h1.elim⟩
/-! ### new lists and dicts -/
/-- what no other thing knows -/
def PostF (X : Cx) (G : Env) (σ : L2.St) (w : Wo) (H : Hp) (r : Res Lin) (Q : VK) : Prop :=
  match r with
  | .ok m s' => ∀ a w' H', Mono w H w' H' → Wd X.K X.mg G.B w' σ s' H' → LOk X.K H' w'.I a m → a ∉ w'.ρ → ¬ w'.I a → G.B.H a = none → (∀ i : Nat, isLin s'.sl[i]? = true → σ[i]? ≠ some (some (.ref a))) → Q (.ref a) H'
  | .ex c fs => ∀ cls dx w' H', Ext G.B.w G.B.H w' H' → Sound w' H' → XV X.K X.mg H' w' c fs cls dx → G.E cls dx H'
  | .bad => False
def tF (X : Cx) (G : Env) (f : Sta → Res Lin) : TE := fun σ H Q => ∃ w s, Wd X.K X.mg G.B w σ s H ∧ PostF X G σ w H (f s) Q
def DF (X : Cx) (G : Env) (e : Expr) (f : Sta → Res Lin) : Prop := PE X e (tF X G f)
theorem PostF.at {r : Res Lin} {Q : VK} (m : Mono w H w1 H1) (h : PostF X G σ w H r Q) : PostF X G σ w1 H1 r Q := by
  cases r with
  | ok a s' => exact fun b w' H' m' => h b w' H' (m.trans m')
  | ex c fs => exact h
  | bad => exact h
theorem PostF.bind {α γ : Type} {R : Hp → Wo → α → γ → Prop} {f : Sta → Res α} {g : α → Sta → Res Lin} {Q : VK} {Q1 : γ → Hp → Prop} (h : PostF X G σ w H (Dz.bnd f g s) Q)
    (k : ∀ a s1 b w1 H1, Mono w H w1 H1 → Wd X.K X.mg G.B w1 σ s1 H1 → R H1 w1 a b → PostF X G σ w1 H1 (g a s1) Q → Q1 b H1) : Post X G R σ w H (f s) Q1 := by
  unfold Dz.bnd at h
  cases e : f s with
  | ok a s' =>
    rw [e] at h
    exact fun b w' H' m W r => k a s' b w' H' m W r (h.at m)
  | ex c fs => rw [e] at h; exact h
  | bad => rw [e] at h; exact h
theorem Wd.linAddr {i : Nat} (W : Wd K mg B w σ s H) (h : isLin s.sl[i]? = true) : ∃ a m, σ[i]? = some (some (.ref a)) ∧ LOk K H w.I a m ∧ a ∉ w.ρ ∧ ¬ w.I a ∧ B.H a = none := by
  cases e : s.sl[i]? with
  | none => rw [e] at h; cases h
  | some x =>
    cases x with
    | lin m =>
      obtain ⟨a, e1, h1, h2, h3, h4⟩ := W.sl i _ e
      exact ⟨a, m, e1, h1, h2, h3, h4⟩
    | un => rw [e] at h; cases h
    | v d => rw [e] at h; cases h
/-- a new thing, not yet anywhere -/
theorem Wd.bare {p : Addr} {o : HO} (W : Wd K mg B w σ s H) (np : H p = none) : Mono w H w (upd H p o) ∧ Wd K mg B w σ s (upd H p o) ∧ p ∉ w.ρ ∧ ¬ w.I p ∧ B.H p = none ∧ ∀ i : Nat, isLin s.sl[i]? = true → σ[i]? ≠ some (some (.ref p)) := by
  have nr : p ∉ w.ρ := fun z => W.snd.rt p z np
  have ni : ¬ w.I p := fun z => W.snd.it p z np
  have x : Ext w H w (upd H p o) := by
    refine ⟨fun a u e _ => upd_keep np a u e, fun _ _ e => e, fun _ h => .inl h, fun _ h => h, fun _ h => .inl h, fun a h => ?_, fun a xs e => upd_keep np a _ e⟩
    cases e : H a with
    | none => rfl
    | some u => rw [upd_keep np a u e] at h; cases h
  have sn : Sound w (upd H p o) := by
    refine ⟨W.snd.nd, fun a h z => ?_, W.snd.ri, fun a h z => ?_⟩
    · exact W.snd.rt a h (x.there a z)
    · exact W.snd.it a h (x.there a z)
  have m := x.mono W.snd
  refine ⟨m, W.step x sn (W.sto.mono (fun a u e => upd_keep np a u e) m rfl), nr, ni, W.ext.there p np, fun i hi z => ?_⟩
  obtain ⟨a, _, e1, h1, _⟩ := W.linAddr hi
  rw [e1] at z
  cases z
  exact h1.there np
theorem PostF.new {p : Addr} {o : HO} {m : Lin} {Q : VK} (W : Wd X.K X.mg G.B w σ s H) (np : H p = none) (hl : Mono w H w (upd H p o) → LOk X.K (upd H p o) w.I p m) (h : PostF X G σ w H (.ok m s) Q) : Q (.ref p) (upd H p o) := by
  obtain ⟨mo, W', h1, h2, h3, h4⟩ := W.bare (o := o) np
  exact h p w _ mo W' (hl mo) h1 h2 h3 h4
/-- it is known from now on, and not changed any more -/
theorem Wd.addI {a : Addr} (W : Wd K mg B w σ s H) (n1 : a ∉ w.ρ) (t : H a ≠ none) (n3 : B.H a = none) (n4 : ∀ i : Nat, isLin s.sl[i]? = true → σ[i]? ≠ some (some (.ref a))) : Wd K mg B (w.add a) σ s H where
  ext := by
    refine ⟨W.ext.keep, W.ext.pre, W.ext.newr, fun b hb => .inl (W.ext.imm b hb), fun b hb => ?_, W.ext.there, W.ext.tup⟩
    rcases hb with hb | rfl
    · exact W.ext.newi b hb
    · exact .inr n3
  snd := W.snd.add n1 t
  sb := W.sb
  sto := W.sto.mono (fun _ _ e => e) .add rfl
  sl := fun j x ej => by
    have h := W.sl j x ej
    cases x with
    | un => trivial
    | v d => obtain ⟨v, e1, h1⟩ := h; exact ⟨v, e1, h1.mono .add⟩
    | lin l' =>
      obtain ⟨b, e1, h1, h2, h3, h4⟩ := h
      refine ⟨b, e1, h1.mono (fun _ e => e) (.sub fun _ h => .inl h), h2, fun z => ?_, h4⟩
      rcases z with z | rfl
      · exact h3 z
      · exact n4 j (by rw [ej]; rfl) e1
  len := W.len
  two := W.two
def frozen : Lin → D
  | .lst xs => .p (.lst xs)
  | .dic kvs => .dic kvs
  | .dct kvs => .dct kvs
theorem frozen_vd {a : Addr} {m : Lin} (l : LOk K H w.I a m) : Vd K H (w.add a) (frozen m) (.ref a) := by
  have k : MI H w.I H (w.add a).I := .sub fun _ h => .inl h
  cases l with
  | lst h t => exact .p (.lst h (.inr rfl) (t.mono k))
  | dic h t => exact .dic (.inl h) (.inr rfl) (t.mono k)
  | dct h t => exact .dct (.inl h) (.inr rfl) (t.mono k)
def frz (f : Sta → Res Lin) : Ev := bnd f fun m s => .ok (frozen m) s
theorem de_frz {fl : Sta → Res Lin} (h : DF X G e fl) : DE X G e (frz fl) :=
  PEi h fun σ H Q ⟨w, s, W, h⟩ => ⟨w, s, W, by
    unfold frz bnd at h
    revert h
    cases fl s with
    | bad => exact fun z => z
    | ex c fs => exact fun z => z
    | ok m s' => exact fun h a w' H' mo W' l n1 n2 n3 n4 => h (.ref a) (w'.add a) H' (mo.trans .add) (W'.addI n1 l.there n3 n4) (frozen_vd l)⟩
/-- an object of the store -/
def Wo.put (w : Wo) (a : Addr) : Wo := ⟨w.ρ ++ [a], w.I⟩
theorem Mono.put {a : Addr} : Mono w H (w.put a) H := ⟨.sub fun _ h => h, fun n b e => by
  have : n < w.ρ.length := (List.getElem?_eq_some_iff.mp e).1
  show (w.ρ ++ [a])[n]? = some b
  rw [List.getElem?_append_left this]; exact e⟩
theorem Wd.put {a : Addr} {m : MO} {S : List MO} (W : Wd K mg B w σ s H) (es : s.st = some S) (l : MOk K mg H w a m) (n1 : a ∉ w.ρ) (n2 : ¬ w.I a) (n3 : B.H a = none) (n4 : ∀ i : Nat, isLin s.sl[i]? = true → σ[i]? ≠ some (some (.ref a))) :
    Wd K mg B (w.put a) σ ⟨s.sl, some (S ++ [m])⟩ H ∧ (w.put a).ρ[S.length]? = some a := by
  have st := W.sto
  rw [es] at st
  have hl : w.ρ.length = S.length := st.1
  have mo : Mono w H (w.put a) H := .put
  refine ⟨⟨?_, ?_, W.sb, ?_, fun j x ej => ?_, W.len, W.two⟩, ?_⟩
  · refine ⟨W.ext.keep, fun n b e => mo.pre n b (W.ext.pre n b e), fun b hb => ?_, W.ext.imm, W.ext.newi, W.ext.there, W.ext.tup⟩
    rcases List.mem_append.mp hb with hb | hb
    · exact W.ext.newr b hb
    · rw [List.mem_singleton.mp hb]; exact .inr n3
  · refine ⟨?_, fun b hb => ?_, fun b hb => ?_, W.snd.it⟩
    · show (w.ρ ++ [a]).Nodup
      rw [List.nodup_append]
      exact ⟨W.snd.nd, by simp, fun x hx y hy z => by rw [List.mem_singleton.mp hy] at z; subst z; exact n1 hx⟩
    · rcases List.mem_append.mp hb with hb | hb
      · exact W.snd.rt b hb
      · rw [List.mem_singleton.mp hb]; exact l.there
    · rcases List.mem_append.mp hb with hb | hb
      · exact W.snd.ri b hb
      · rw [List.mem_singleton.mp hb]; exact n2
  · refine ⟨by show (w.ρ ++ [a]).length = _; simp [hl], fun n b m' e1 e2 => ?_⟩
    have e1 : (w.ρ ++ [a])[n]? = some b := e1
    by_cases hn : n < S.length
    · rw [List.getElem?_append_left (by omega)] at e1
      rw [List.getElem?_append_left hn] at e2
      exact (st.2 n b m' e1 e2).mono (fun _ e => e) (fun _ e => e) mo
    · have : n = S.length := by
        have := (List.getElem?_eq_some_iff.mp e2).1
        simp at this; omega
      subst this
      rw [List.getElem?_append_right (Nat.le_refl _)] at e2
      rw [List.getElem?_append_right (by omega)] at e1
      simp at e2
      simp [hl] at e1
      subst e1 e2
      exact l.mono (fun _ e => e) (fun _ e => e) mo
  · have h := W.sl j x ej
    cases x with
    | un => trivial
    | v d => obtain ⟨v, e1, h1⟩ := h; exact ⟨v, e1, h1.mono mo⟩
    | lin l' =>
      obtain ⟨b, e1, h1, h2, h3, h4⟩ := h
      refine ⟨b, e1, h1.mono (fun _ e => e) mo.imm, fun z => ?_, h3, h4⟩
      rcases List.mem_append.mp z with z | z
      · exact h2 z
      · rw [List.mem_singleton.mp z] at e1
        exact n4 j (by rw [ej]; rfl) e1
  · show (w.ρ ++ [a])[S.length]? = some a
    rw [← hl, List.getElem?_append_right (Nat.le_refl _)]
    simp
end
end Dz
namespace Dz
open PySem PySem.Spec PyProof.Rows L2
section
variable {X : Cx} {G : Env} {σ σ' : L2.St} {w w1 w' : Wo} {H H1 H' : Hp} {s s1 s' : Sta} {K : PySem.W.Frag} {mg : Str → Option Value} {B : Ba}
variable {a b c e : Expr} {es : List Expr} {f g h : Ev} {pos p2 : Pos} {rest : List Expr}
/-! ### displays -/
def alloc (m : MO) : Ev := fun s => match s.st with
  | some S => .ok (.loc S.length) ⟨s.sl, some (S ++ [m])⟩
  | none => .bad
def mkTup (ds : List D) : Ev := fun s => if ds.length ≤ sizeLine then (match ds.mapM unP with
  | some xs => .ok (.p (.tup xs)) s
  | none => alloc (.tup ds) s) else .bad
def mkLin (ds : List D) : Sta → Res Lin := fun s => if ds.length ≤ sizeLine then (match ds.mapM unP with
  | some xs => .ok (.lst xs) s
  | none => .bad) else .bad
def mkLst (ds : List D) : Ev := fun s => if ds.length ≤ sizeLine then alloc (.lst ds) s else .bad
variable {fa : Sta → Res (List D)}
theorem alloc_at {p : Addr} {o : HO} {m : MO} {Q : VK} (W : Wd X.K X.mg G.B w σ s H) (np : H p = none) (hm : Mono w H w (upd H p o) → MOk X.K X.mg (upd H p o) w p m) (h : Post X G (RD X) σ w H (alloc m s) Q) : Q (.ref p) (upd H p o) := by
  obtain ⟨mo, W', h1, h2, h3, h4⟩ := W.bare (o := o) np
  unfold alloc at h
  split at h
  · rename_i S es
    obtain ⟨W2, hl⟩ := W'.put es (hm mo) h1 h2 h3 h4
    exact h _ _ _ (mo.trans .put) W2 (.loc hl)
  · exact h.elim
theorem de_tup {x1} (ha : DA X G es fa) : DE X G (.Tuple es x1 pos) (bnd fa mkTup) :=
  PEi (pe_tup ha) fun σ H Q ⟨w, s, W, h⟩ => ⟨w, s, W, h.bind fun ds s1 vs w1 H1 m1 W1 r1 h1 => by
    unfold mkTup at h1
    split at h1
    · rename_i hz
      refine ⟨by rw [← VdL.len r1]; exact hz, fun p np => ?_⟩
      split at h1
      · rename_i xs ex
        exact Post.newT W1 (r1.td ex) np h1
      · exact alloc_at W1 np (fun mo => .tup upd_same (r1.mono mo)) h1
    · exact h1.elim⟩
theorem df_lst (ha : DA X G es fa) : DF X G (.List es pos) (bnd fa mkLin) :=
  PEi (pe_lst ha) fun σ H Q ⟨w, s, W, h⟩ => ⟨w, s, W, h.bind fun ds s1 vs w1 H1 m1 W1 r1 h1 => by
    unfold mkLin at h1
    split at h1
    · rename_i hz
      refine ⟨by rw [← VdL.len r1]; exact hz, fun p np => ?_⟩
      split at h1
      · rename_i xs ex
        exact PostF.new W1 np (fun mo => .lst upd_same ((r1.td ex).mono mo.imm)) h1
      · exact h1.elim
    · exact h1.elim⟩
/-- a list display that stands in the store -/
theorem de_lstS (ha : DA X G es fa) : DE X G (.List es pos) (bnd fa mkLst) :=
  PEi (pe_lst ha) fun σ H Q ⟨w, s, W, h⟩ => ⟨w, s, W, h.bind fun ds s1 vs w1 H1 m1 W1 r1 h1 => by
    unfold mkLst at h1
    split at h1
    · rename_i hz
      exact ⟨by rw [← VdL.len r1]; exact hz, fun p np => alloc_at W1 np (fun mo => .lst upd_same (r1.mono mo)) h1⟩
    · exact h1.elim⟩
/-! ### statements -/
def PostS (X : Cx) (G : Env) (w : Wo) (H : Hp) (r : Fl) (D : Ends) : Prop :=
  match r with
  | .nx s' => ∀ σ' w' H', Mono w H w' H' → Wd X.K X.mg G.B w' σ' s' H' → D.nx σ' H'
  | .brk s' => ∀ σ' w' H', Mono w H w' H' → Wd X.K X.mg G.B w' σ' s' H' → D.bk σ' H'
  | .cnt s' => ∀ σ' w' H', Mono w H w' H' → Wd X.K X.mg G.B w' σ' s' H' → D.ct σ' H'
  | .ret d s' => ∀ v w' H', Ext G.B.w G.B.H w' H' → Sound w' H' → StOk X.K X.mg H' w' s'.st → Vd X.K H' w' d v → D.rt v H'
  | .ex c fs => ∀ cls dx w' H', Ext G.B.w G.B.H w' H' → Sound w' H' → XV X.K X.mg H' w' c fs cls dx → G.E cls dx H'
  | .bad => False
def tS (X : Cx) (G : Env) (g : Ex) : TS := fun D σ H => ∃ w s, Wd X.K X.mg G.B w σ s H ∧ PostS X G w H (g s) D
def DS (X : Cx) (G : Env) (st : Stmt) (g : Ex) : Prop := PS X st (tS X G g)
def DSs (X : Cx) (G : Env) (st : List Stmt) (g : Ex) : Prop := PSs X st (tS X G g)
theorem PostS.at {r : Fl} {D : Ends} (m : Mono w H w1 H1) (h : PostS X G w H r D) : PostS X G w1 H1 r D := by
  cases r with
  | nx s' => exact fun σ' w' H' m' => h σ' w' H' (m.trans m')
  | brk s' => exact fun σ' w' H' m' => h σ' w' H' (m.trans m')
  | cnt s' => exact fun σ' w' H' m' => h σ' w' H' (m.trans m')
  | ret d s' => exact h
  | ex c fs => exact h
  | bad => exact h
/-- an expression, then a statement's rest -/
def bndS {α : Type} (f : Sta → Res α) (k : α → Ex) : Ex := fun s => match f s with
  | .ok a s' => k a s'
  | .ex c fs => .ex c fs
  | .bad => .bad
theorem PostS.bind {α γ : Type} {R : Hp → Wo → α → γ → Prop} {f : Sta → Res α} {k : α → Ex} {D : Ends} {Q1 : γ → Hp → Prop} (h : PostS X G w H (bndS f k s) D)
    (q : ∀ a s1 b w1 H1, Mono w H w1 H1 → Wd X.K X.mg G.B w1 σ s1 H1 → R H1 w1 a b → PostS X G w1 H1 (k a s1) D → Q1 b H1) : Post X G R σ w H (f s) Q1 := by
  unfold bndS at h
  cases e : f s with
  | ok a s' => rw [e] at h; exact fun b w' H' m W r => q a s' b w' H' m W r (h.at m)
  | ex c fs => rw [e] at h; exact h
  | bad => rw [e] at h; exact h
def skip : Ex := fun s => .nx s
def seqS (f g : Ex) : Ex := fun s => match f s with
  | .nx s' => g s'
  | r => r
variable {st : Stmt} {sts sts2 : List Stmt} {gs hs : Ex}
theorem dss_nil : DSs X G [] skip := PSsi pss_nil fun D σ H ⟨w, s, W, h⟩ => h σ w H .refl W
theorem dss_cons (h1 : DS X G st gs) (h2 : DSs X G sts hs) : DSs X G (st :: sts) (seqS gs hs) :=
  PSsi (pss_cons h1 h2) fun D σ H ⟨w, s, W, h⟩ => ⟨w, s, W, by
    unfold seqS at h
    revert h
    cases gs s with
    | nx s' => exact fun h σ' w' H' m W' => ⟨w', s', W', h.at m⟩
    | brk s' => exact fun h => h
    | cnt s' => exact fun h => h
    | ret d s' => exact fun h => h
    | ex c fs => exact fun h => h
    | bad => exact fun h => h⟩
theorem dss_one (h1 : DS X G st gs) : DSs X G [st] gs := pss_one h1
theorem ds_pass : DS X G (.Pass pos) skip := PSi ps_pass fun D σ H ⟨w, s, W, h⟩ => h σ w H .refl W
def brkS : Ex := fun s => .brk s
def cntS : Ex := fun s => .cnt s
theorem ds_break : DS X G (.Break pos) brkS := PSi ps_break fun D σ H ⟨w, s, W, h⟩ => h σ w H .refl W
theorem ds_continue : DS X G (.Continue pos) cntS := PSi ps_continue fun D σ H ⟨w, s, W, h⟩ => h σ w H .refl W
theorem ds_doc {x j pos'} : DS X G (.Expr (.Constant (.str x) j pos) pos') skip := PSi ps_doc fun D σ H ⟨w, s, W, h⟩ => h σ w H .refl W
/-! ### stores -/
theorem Wd.setv {i : Nat} {d : D} {v : V} (W : Wd K mg B w σ s H) (hv : Vd K H w d v) : Wd K mg B w (σ.set i (some v)) ⟨s.sl.set i (.v d), s.st⟩ H where
  ext := W.ext
  snd := W.snd
  sb := W.sb
  sto := W.sto
  sl := fun j x ej => by
    have ej : (s.sl.set i (.v d))[j]? = some x := ej
    rw [List.getElem?_set] at ej
    rw [List.getElem?_set]
    by_cases eq : i = j
    · subst eq
      rw [if_pos rfl] at ej
      split at ej
      · rename_i hl
        cases ej
        rw [if_pos rfl, if_pos (Nat.lt_of_lt_of_le hl W.len)]
        exact ⟨v, rfl, hv⟩
      · cases ej
    · rw [if_neg eq] at ej ⊢
      exact W.sl j x ej
  len := by show (s.sl.set i _).length ≤ (σ.set i _).length; rw [List.length_set, List.length_set]; exact W.len
  two := fun p q pq hp hq => by
    have other : ∀ p, isLin (s.sl.set i (.v d))[p]? = true → i ≠ p ∧ isLin s.sl[p]? = true := fun p hp => by
      rw [List.getElem?_set] at hp
      split at hp
      · split at hp <;> cases hp
      · rename_i ne; exact ⟨ne, hp⟩
    obtain ⟨n1, h1⟩ := other p hp
    obtain ⟨n2, h2⟩ := other q hq
    rw [List.getElem?_set, List.getElem?_set, if_neg n1, if_neg n2]
    exact W.two p q pq h1 h2
/-- a fresh list or dict comes into a slot -/
theorem Wd.setl {i : Nat} {m : Lin} {a : Addr} (W : Wd K mg B w σ s H) (l : LOk K H w.I a m) (n1 : a ∉ w.ρ) (n2 : ¬ w.I a) (n3 : B.H a = none) (n4 : ∀ i : Nat, isLin s.sl[i]? = true → σ[i]? ≠ some (some (.ref a))) :
    Wd K mg B w (σ.set i (some (.ref a))) ⟨s.sl.set i (.lin m), s.st⟩ H where
  ext := W.ext
  snd := W.snd
  sb := W.sb
  sto := W.sto
  sl := fun j x ej => by
    have ej : (s.sl.set i (.lin m))[j]? = some x := ej
    rw [List.getElem?_set] at ej
    rw [List.getElem?_set]
    by_cases eq : i = j
    · subst eq
      rw [if_pos rfl] at ej
      split at ej
      · rename_i hl
        cases ej
        rw [if_pos rfl, if_pos (Nat.lt_of_lt_of_le hl W.len)]
        exact ⟨a, rfl, l, n1, n2, n3⟩
      · cases ej
    · rw [if_neg eq] at ej ⊢
      exact W.sl j x ej
  len := by show (s.sl.set i _).length ≤ (σ.set i _).length; rw [List.length_set, List.length_set]; exact W.len
  two := fun p q pq hp hq => by
    have hp : isLin (s.sl.set i (.lin m))[p]? = true := hp
    have hq : isLin (s.sl.set i (.lin m))[q]? = true := hq
    rw [List.getElem?_set] at hp hq
    rw [List.getElem?_set, List.getElem?_set]
    by_cases e1 : i = p
    · by_cases e2 : i = q
      · exact absurd (e1.symm.trans e2) pq
      · rw [if_neg e2] at hq ⊢
        rw [if_pos e1] at hp ⊢
        split at hp
        · rename_i hl
          subst e1
          rw [if_pos (Nat.lt_of_lt_of_le hl W.len)]
          exact fun z => n4 q hq z.symm
        · cases hp
    · rw [if_neg e1] at hp ⊢
      by_cases e2 : i = q
      · rw [if_pos e2] at hq ⊢
        split at hq
        · rename_i hl
          subst e2
          rw [if_pos (Nat.lt_of_lt_of_le hl W.len)]
          exact n4 p hp
        · cases hq
      · rw [if_neg e2] at hq ⊢
        exact W.two p q pq hp hq
def setV (i : Nat) (d : D) : Ex := fun s => .nx ⟨s.sl.set i (.v d), s.st⟩
def setL (i : Nat) (m : Lin) : Ex := fun s => .nx ⟨s.sl.set i (.lin m), s.st⟩
/-! ### targets -/
abbrev Tg := D → Sta → Option Sta
abbrev Tgs := List D → Sta → Option Sta
def PostG (X : Cx) (G : Env) (w : Wo) (H : Hp) (r : Option Sta) (Q : L2.St → Hp → Prop) : Prop :=
  match r with
  | some s' => ∀ σ' w' H', Mono w H w' H' → Wd X.K X.mg G.B w' σ' s' H' → Q σ' H'
  | none => False
def tG (X : Cx) (G : Env) (t : Tg) : TG := fun v σ H Q => ∃ w s d, Wd X.K X.mg G.B w σ s H ∧ Vd X.K H w d v ∧ PostG X G w H (t d s) Q
def tGs (X : Cx) (G : Env) (t : Tgs) : TGs := fun vs σ H Q => ∃ w s ds, Wd X.K X.mg G.B w σ s H ∧ VdL X.K H w ds vs ∧ PostG X G w H (t ds s) Q
def DG (X : Cx) (G : Env) (e : Expr) (t : Tg) : Prop := PG X e (tG X G t)
def DGs (X : Cx) (G : Env) (es : List Expr) (t : Tgs) : Prop := PGs X es (tGs X G t)
theorem PGi {X : Cx} {e : Expr} {t t' : TG} (h : PG X e t) (k : ∀ v σ H Q, t' v σ H Q → t v σ H Q) : PG X e t' := ⟨fun pins s σ H v u Q I r q => h.run pins s σ H v u Q I r (k v σ H Q q)⟩
theorem PGsi {X : Cx} {es : List Expr} {t t' : TGs} (h : PGs X es t) (k : ∀ v σ H Q, t' v σ H Q → t v σ H Q) : PGs X es t' := ⟨fun pins s σ H v u Q I r q => h.run pins s σ H v u Q I r (k v σ H Q q)⟩
def nameG (i : Nat) : Tg := fun d s => some ⟨s.sl.set i (.v d), s.st⟩
theorem dg_name {i : Nat} {x : Str} (hN : X.N.Nodup) (hi : X.N[i]? = some x) (hx : Loc X.env.scope x) (hf : X.fn x = true ∨ X.env.scope.names.lookup x = some .local := by first | exact .inl rfl | exact .inr rfl | assumption) : DG X G (.Name x pos) (nameG i) :=
  PGi (pg_name hN hi hx hf) fun v σ H Q ⟨w, s, d, W, hv, h⟩ => h _ w H .refl (W.setv hv)
def nilG : Tgs
  | [], s => some s
  | _, _ => none
def consG (t : Tg) (u : Tgs) : Tgs
  | d :: ds, s => match t d s with
    | some s' => u ds s'
    | none => none
  | [], _ => none
theorem dgs_nil : DGs X G [] nilG := PGsi pgs_nil fun vs σ H Q ⟨w, s, ds, W, hv, h⟩ => by
  cases hv with
  | nil => exact ⟨rfl, h σ w H .refl W⟩
  | cons _ _ => exact h.elim
theorem PostG.at {r : Option Sta} {Q : L2.St → Hp → Prop} (m : Mono w H w1 H1) (h : PostG X G w H r Q) : PostG X G w1 H1 r Q := by
  cases r with
  | some s' => exact fun σ' w' H' m' => h σ' w' H' (m.trans m')
  | none => exact h
theorem dgs_cons {t : Tg} {u : Tgs} (h1 : DG X G e t) (h2 : DGs X G es u) (hs : (assignEach (e :: es) X.env).map (·.2) = assign e X.env :: (assignEach es X.env).map (·.2) := by rfl) : DGs X G (e :: es) (consG t u) :=
  PGsi (pgs_cons h1 h2 hs) fun vs σ H Q ⟨w, s, ds, W, hv, h⟩ => by
    cases hv with
    | nil => exact h.elim
    | @cons d ds v vs a t' =>
      refine ⟨v, vs, rfl, w, s, d, W, a, ?_⟩
      unfold consG at h
      cases e : t d s with
      | some s' => simp only [e] at h; exact fun σ' w' H' m W' => ⟨w', s', ds, W', t'.mono m, h.at m⟩
      | none => simp only [e] at h; exact h.elim
/-- what is taken apart: a tuple -/
def tupOf (d : D) (s : Sta) : Option (List D) := match d with
  | .p (.tup xs) => some (xs.map .p)
  | .kt xs => some (xs.map kitem)
  | .loc n => match s.st with
    | some S => match S[n]? with
      | some (.tup ds) => some ds
      | _ => none
    | none => none
  | _ => none
theorem tup_at' {d : D} {v : V} {ds : List D} (W : Wd K mg B w σ s H) (h : Vd K H w d v) (e : tupOf d s = some ds) : ∃ a vs, v = .ref a ∧ SqT K H a vs ∧ VdL K H w ds vs := by
  unfold tupOf at e
  cases h with
  | p t =>
    cases t with
    | tup h1 t => simp at e; subst e; exact ⟨_, _, rfl, .of h1, t.vd⟩
    | tupK hq _ _ => cases hq
    | _ => simp at e
  | kt h1 h2 => simp at e; subst e; exact ⟨_, _, rfl, h1 _, kitems h2⟩
  | @loc n a hn =>
    have st := W.sto
    cases es : s.st with
    | none => rw [es] at e; simp at e
    | some S =>
      rw [es] at e st
      simp only at e
      split at e
      · rename_i ds' em
        cases e
        cases st.2 n a _ hn em with
        | tup h1 t => exact ⟨_, _, rfl, .of h1, t⟩
      · cases e
  | _ => simp at e
def tupG (n : Nat) (t : Tgs) : Tg := fun d s => match tupOf d s with
  | some ds => if ds.length = n then t ds s else none
  | none => none
theorem dg_tup {k n : Nat} {t : Tgs} (hc : X.calm = true) (h : DGs X G es t) (hn : (assignEach es X.env).length = n := by rfl) (hst : (assignEach es X.env).findIdx? (·.1) = none := by rfl) : DG X G (.Tuple es k pos) (tupG n t) :=
  PGi (pg_tup hc h hn hst) fun v σ H Q ⟨w, s, d, W, hv, h⟩ => by
    unfold tupG at h
    split at h
    · rename_i ds ed
      split at h
      · rename_i hl
        obtain ⟨a, vs, rfl, hq, tl⟩ := tup_at' W hv ed
        exact ⟨a, vs, rfl, hq, by rw [← VdL.len tl]; exact hl, w, s, ds, W, tl, h⟩
      · exact h.elim
    · exact h.elim
/-! ### assignments -/
theorem ds_set {i : Nat} {x : Str} {pos' : Pos} (hN : X.N.Nodup) (hi : X.N[i]? = some x) (hx : Loc X.env.scope x) (ha : DE X G a f) (hs : swapsWith a (some (.Name x pos')) pos.line X.env = pure false := by rfl)
    (hf : X.fn x = true ∨ X.env.scope.names.lookup x = some .local := by first | exact .inl rfl | exact .inr rfl | assumption) : DS X G (.Assign [.Name x pos'] a pos) (bndS f (setV i)) :=
  PSi (ps_set hN hi hx ha hs hf) fun D σ H ⟨w, s, W, h⟩ => ⟨w, s, W, h.bind fun d s1 v w1 H1 m1 W1 r1 h1 => h1 _ w1 H1 .refl (W1.setv r1)⟩
theorem tF_bind {fl : Sta → Res Lin} {k : Lin → Ex} {D : Ends} {Q1 : VK} (W : Wd X.K X.mg G.B w σ s H) (h : PostS X G w H (bndS fl k s) D)
    (q : ∀ m s1 a w1 H1, Mono w H w1 H1 → Wd X.K X.mg G.B w1 σ s1 H1 → LOk X.K H1 w1.I a m → a ∉ w1.ρ → ¬ w1.I a → G.B.H a = none → (∀ i : Nat, isLin s1.sl[i]? = true → σ[i]? ≠ some (some (.ref a))) → PostS X G w1 H1 (k m s1) D → Q1 (.ref a) H1) : tF X G fl σ H Q1 := by
  refine ⟨w, s, W, ?_⟩
  unfold bndS at h
  unfold PostF
  cases e : fl s with
  | ok m s' => rw [e] at h; exact fun a w' H' mo W' l n1 n2 n3 n4 => q m s' a w' H' mo W' l n1 n2 n3 n4 (h.at mo)
  | ex c fs => rw [e] at h; exact h
  | bad => rw [e] at h; exact h
theorem ds_setl {i : Nat} {x : Str} {pos' : Pos} {fl : Sta → Res Lin} (hN : X.N.Nodup) (hi : X.N[i]? = some x) (hx : Loc X.env.scope x) (ha : DF X G a fl) (hs : swapsWith a (some (.Name x pos')) pos.line X.env = pure false := by rfl)
    (hf : X.fn x = true ∨ X.env.scope.names.lookup x = some .local := by first | exact .inl rfl | exact .inr rfl | assumption) : DS X G (.Assign [.Name x pos'] a pos) (bndS fl (setL i)) :=
  PSi (ps_set hN hi hx ha hs hf) fun D σ H ⟨w, s, W, h⟩ => tF_bind W h fun m s1 a w1 H1 mo W1 l n1 n2 n3 n4 h1 => h1 _ w1 H1 .refl (W1.setl l n1 n2 n3 n4)
def asgS (f : Ev) (t : Tg) : Ex := bndS f fun d s => match t d s with
  | some s' => .nx s'
  | none => .bad
theorem ds_asg {tg : Expr} {t : Tg} (ha : DE X G a f) (hg : DG X G tg t) (hs : swapsWithSole [tg] a pos.line X.env = pure false := by rfl) (hw : swappedStores [tg] a X.env = pure none := by rfl)
    (h1 : (assignEach [tg] X.env).map (·.2) = [assign tg X.env] := by rfl) : DS X G (.Assign [tg] a pos) (asgS f t) :=
  PSi (ps_asg ha hg hs hw h1) fun D σ H ⟨w, s, W, h⟩ => ⟨w, s, W, h.bind fun d s1 v w1 H1 m1 W1 r1 h1 => ⟨w1, s1, d, W1, r1, by
    cases e : t d s1 with
    | some s2 => simp only [e] at h1; exact h1
    | none => simp only [e] at h1; exact h1.elim⟩⟩
theorem ds_expr (ha : DE X G a f) (hs : swapsWith a none pos.line X.env = pure false := by rfl) : DS X G (.Expr a pos) (bndS f fun _ => skip) :=
  PSi (ps_expr ha hs) fun D σ H ⟨w, s, W, h⟩ => ⟨w, s, W, h.bind fun d s1 v w1 H1 m1 W1 r1 h1 => h1 _ w1 H1 .refl W1⟩
def retS (d : D) : Ex := fun s => .ret d s
theorem ds_ret (ha : DE X G a f) : DS X G (.Return (some a) pos) (bndS f retS) :=
  PSi (ps_ret ha) fun D σ H ⟨w, s, W, h⟩ => ⟨w, s, W, h.bind fun d s1 v w1 H1 m1 W1 r1 h1 => h1 v w1 H1 W1.ext W1.snd W1.sto r1⟩
theorem ds_retN : DS X G (.Return none pos) (retS (.p .non)) := PSi ps_retN fun D σ H ⟨w, s, W, h⟩ => h .non w H W.ext W.snd W.sto (.p .non)
def ifS (t : Sta → Res Bool) (g h : Ex) : Ex := bndS t fun b s => if b = true then g s else h s
theorem ds_if {ft : Sta → Res Bool} (hc : DT X G c ft) (h1 : DSs X G sts gs) (h2 : DSs X G sts2 hs) : DS X G (.If c sts sts2 pos) (ifS ft gs hs) :=
  PSi (ps_if hc h1 h2) fun D σ H ⟨w, s, W, h⟩ => ⟨w, s, W, h.bind fun d s1 v w1 H1 m1 W1 r1 h1 => by
    cases (show d = v from r1)
    cases d with
    | true => exact iteT ⟨w1, s1, W1, h1⟩
    | false => exact iteF ⟨w1, s1, W1, h1⟩⟩
end
end Dz
namespace Dz
open PySem PySem.Spec PyProof.Rows L2
section
variable {X : Cx} {G : Env} {σ σ' : L2.St} {w w1 w' : Wo} {H H1 H' : Hp} {s s1 s' : Sta} {K : PySem.W.Frag} {mg : Str → Option Value} {B : Ba}
variable {a b c e : Expr} {es : List Expr} {f g h : Ev} {pos p2 : Pos} {rest : List Expr} {st : Stmt} {sts sts2 : List Stmt} {gs hs : Ex}
/-! ### while -/
def whileS (t : Sta → Res Bool) (b : Ex) : Nat → Ex
  | 0 => fun _ => .bad
  | n + 1 => bndS t fun k s => if k = true then (match b s with
    | .nx s' => whileS t b n s'
    | .cnt s' => whileS t b n s'
    | .brk s' => .nx s'
    | r => r) else .nx s
theorem ds_while {ft : Sta → Res Bool} (n : Nat) (hp : PassesOwn (model X.prog X.w) X.A X.env X.xe) (hc : DT X G c ft) (hb : DSs X G sts gs) : DS X G (.While c sts [] pos) (whileS ft gs n) :=
  PSi (ps_while hp hc hb) fun D σ H ⟨w, s, W, h⟩ => by
    refine ⟨fun m σ H => ∃ w s, Wd X.K X.mg G.B w σ s H ∧ PostS X G w H (whileS ft gs m s) D, ⟨n, w, s, W, h⟩, ?_⟩
    rintro m σ H ⟨w, s, W, h⟩
    cases m with
    | zero => exact h.elim
    | succ m =>
      refine ⟨w, s, W, PostS.bind h fun k s1 k' w1 H1 m1 W1 r1 h1 => ?_⟩
      cases (show k = k' from r1)
      cases k with
      | false =>
        rw [if_neg Bool.false_ne_true] at h1 ⊢
        exact h1 _ w1 H1 .refl W1
      | true =>
        rw [if_pos rfl] at h1 ⊢
        refine ⟨fun σ' H' => ∃ m', m' < m + 1 ∧ ∃ w s, Wd X.K X.mg G.B w σ' s H' ∧ PostS X G w H' (whileS ft gs m' s) D, fun _ _ z => z, w1, s1, W1, ?_⟩
        revert h1
        cases gs s1 with
        | nx s' => exact fun h1 σ' w' H' m' W' => ⟨m, Nat.lt_succ_self _, w', s', W', h1.at m'⟩
        | cnt s' => exact fun h1 σ' w' H' m' W' => ⟨m, Nat.lt_succ_self _, w', s', W', h1.at m'⟩
        | brk s' => exact fun h1 => h1
        | ret d s' => exact fun h1 => h1
        | ex c fs => exact fun h1 => h1
        | bad => exact fun h1 => h1
/-! ### what is walked -/
/-- J goes over ds from the state at w, H on -/
def WalkD (X : Cx) (G : Env) (w : Wo) (H : Hp) (J : It) (ds : List D) : Prop := ∃ (Gs : Hp → Prop) (Y : Nat → Hp → V → Hp → Prop), Walk J ds.length Gs Y ∧ (∀ w1 H1, Mono w H w1 H1 → Gs H1) ∧
  ∀ i H0 x H1 w0, i < ds.length → Mono w H w0 H0 → Sound w0 H0 → Y i H0 x H1 → (H1 = H0 ∨ ∃ T o, H0 T = none ∧ H1 = upd H0 T o) ∧ ∀ w1, Mono w0 H0 w1 H1 → (∀ T, H0 T = none → H1 T ≠ none → w1.I T) → ∃ d, ds[i]? = some d ∧ Vd X.K H1 w1 d x
def PostI (X : Cx) (G : Env) (σ : L2.St) (w : Wo) (H : Hp) (r : Res (List D)) (R : It → Hp → Prop) : Prop :=
  match r with
  | .ok ds s' => ∀ w' H' J, Mono w H w' H' → Wd X.K X.mg G.B w' σ s' H' → WalkD X G w' H' J ds → R J H'
  | .ex c fs => ∀ cls dx w' H', Ext G.B.w G.B.H w' H' → Sound w' H' → XV X.K X.mg H' w' c fs cls dx → G.E cls dx H'
  | .bad => False
def tI (X : Cx) (G : Env) (f : Sta → Res (List D)) : TI := fun σ H R => ∃ w s, Wd X.K X.mg G.B w σ s H ∧ PostI X G σ w H (f s) R
def DI (X : Cx) (G : Env) (tg iter : Expr) (f : Sta → Res (List D)) : Prop := PI X tg iter (tI X G f)
theorem PIi {X : Cx} {tg e : Expr} {t t' : TI} (h : PI X tg e t) (k : ∀ σ H R, t' σ H R → t σ H R) : PI X tg e t' := ⟨fun pins s σ H R I q => h.run pins s σ H R I (k σ H R q)⟩
theorem PI.or {X : Cx} {tg e : Expr} {t t' : TI} (h : PI X tg e t) (h' : PI X tg e t') : PI X tg e (fun σ H R => t σ H R ∨ t' σ H R) := ⟨fun pins s σ H R I q => by
  rcases q with q | q
  · exact h.run pins s σ H R I q
  · exact h'.run pins s σ H R I q⟩
theorem PostI.at {r : Res (List D)} {R : It → Hp → Prop} (m : Mono w H w1 H1) (h : PostI X G σ w H r R) : PostI X G σ w1 H1 r R := by
  cases r with
  | ok a s' => exact fun w' H' J m' => h w' H' J (m.trans m')
  | ex c fs => exact h
  | bad => exact h
theorem PostI.bind {α γ : Type} {RR : Hp → Wo → α → γ → Prop} {f : Sta → Res α} {k : α → Sta → Res (List D)} {R : It → Hp → Prop} {Q1 : γ → Hp → Prop} (h : PostI X G σ w H (bnd f k s) R)
    (q : ∀ a s1 b w1 H1, Mono w H w1 H1 → Wd X.K X.mg G.B w1 σ s1 H1 → RR H1 w1 a b → PostI X G σ w1 H1 (k a s1) R → Q1 b H1) : Post X G RR σ w H (f s) Q1 := by
  unfold bnd at h
  cases e : f s with
  | ok a s' => rw [e] at h; exact fun b w' H' m W r => q a s' b w' H' m W r (h.at m)
  | ex c fs => rw [e] at h; exact h
  | bad => rw [e] at h; exact h
/-- lists and tuples that do not change -/
def immOf (d : D) : Option (List D) := match d with
  | .p (.lst xs) => some (xs.map .p)
  | .p (.tup xs) => some (xs.map .p)
  | .fz xs => some (xs.map .p)
  | .kt xs => some (xs.map kitem)
  | _ => none
def walkR (d : D) : Sta → Res (List D) := fun s => match immOf d with
  | some ds => .ok ds s
  | none => .bad
theorem walk_at {J : It} {vs : List V} {ds : List D} {Gs : Hp → Prop} (wk : Walk J vs.length Gs (YAt vs)) (hg : ∀ w1 H1, Mono w H w1 H1 → Gs H1) (tl : VdL X.K H w ds vs) : WalkD X G w H J ds := by
  refine ⟨Gs, YAt vs, by rw [tl.len]; exact wk, hg, fun i H0 x H1 w0 hi m0 _ y => ?_⟩
  obtain ⟨rfl, hx⟩ := y
  refine ⟨.inl rfl, fun w1 m1 _ => ?_⟩
  obtain ⟨v, e1, h1⟩ := tl.at (x := ds[i]) (i := i) (by simp [hi])
  rw [hx] at e1
  cases e1
  exact ⟨ds[i], by simp [hi], (h1.mono m0).mono m1⟩
theorem di_seq {tg : Expr} (ha : DE X G a f) : DI X G tg a (bnd f walkR) :=
  PIi (PI.or (pi_list ha) (pi_tup ha)) fun σ H R ⟨w, s, W, h⟩ => by
    unfold bnd at h
    cases e : f s with
    | bad => rw [e] at h; exact h.elim
    | ex c fs => rw [e] at h; exact .inl ⟨w, s, W, by rw [e]; exact h⟩
    | ok d s' =>
      rw [e] at h
      unfold walkR at h
      simp only at h
      cases d with
      | p x =>
        cases x with
        | lst xs =>
          refine .inl ⟨w, s, W, ?_⟩
          rw [e]
          intro v w1 H1 m1 W1 r1
          cases r1 with
          | p t =>
            cases t with
            | lst h1 h2 t => exact ⟨_, rfl, ⟨_, .of h1⟩, h w1 H1 _ m1 W1 (walk_at walk_list (fun w2 H2 m2 => .of (m2.imm.at' _ _ h2 h1).2) t.vd)⟩
        | tup xs =>
          refine .inr ⟨w, s, W, ?_⟩
          rw [e]
          intro v w1 H1 m1 W1 r1
          cases r1 with
          | p t =>
            cases t with
            | tup h1 t => exact ⟨_, rfl, ⟨_, .of h1⟩, h w1 H1 _ m1 W1 (walk_at walk_tup (fun w2 H2 m2 => .of (m2.imm.tup _ _ h1)) t.vd)⟩
            | tupK hq _ _ => cases hq
        | _ => exact h.elim
      | fz xs =>
        refine .inl ⟨w, s, W, ?_⟩
        rw [e]
        intro v w1 H1 m1 W1 r1
        cases r1 with
        | fz h1 t => exact ⟨_, rfl, ⟨_, h1.sq⟩, h w1 H1 _ m1 W1 (walk_at walk_list (fun w2 H2 m2 => (h1.mono m2.imm).sq) t.vd)⟩
      | kt xs =>
        refine .inr ⟨w, s, W, ?_⟩
        rw [e]
        intro v w1 H1 m1 W1 r1
        cases r1 with
        | kt h1 h2 => exact ⟨_, rfl, ⟨_, h1 _⟩, h w1 H1 _ m1 W1 (walk_at walk_tup (fun w2 H2 m2 => h1 _) (kitems h2))⟩
      | _ => exact h.elim
/-- range(n), range(a, b) -/
def rngL (lo : Int) (n : Nat) : List D := (List.range n).map fun i => .p (.int (lo + (i : Nat)))
@[irreducible] def rng1 (ds : List D) : Sta → Res (List D) := fun s => match ds with
  | [.p (.int j)] => if -(2 ^ 62) ≤ j ∧ j < 2 ^ 62 then .ok (rngL 0 j.toNat) s else .bad
  | _ => .bad
@[irreducible] def rng2 (ds : List D) : Sta → Res (List D) := fun s => match ds with
  | [.p (.int i), .p (.int j)] => if -(2 ^ 62) ≤ i ∧ i < 2 ^ 62 ∧ -(2 ^ 62) ≤ j ∧ j < 2 ^ 62 then .ok (rngL i (j - i).toNat) s else .bad
  | _ => .bad
theorem rngL_len {lo : Int} {n : Nat} : (rngL lo n).length = n := by simp [rngL]
theorem walk_rng {lo : Int} {n : Nat} : WalkD X G w H (Itr lo n) (rngL lo n) := by
  refine ⟨_, _, by rw [rngL_len]; exact walk_range, fun _ _ _ => trivial, fun i H0 x H1 w0 hi m0 _ y => ?_⟩
  obtain ⟨rfl, rfl⟩ := y
  rw [rngL_len] at hi
  exact ⟨.inl rfl, fun w1 m1 _ => ⟨.p (.int (lo + i)), by simp [rngL, hi], .p (.int _)⟩⟩
variable {fa : Sta → Res (List D)}
theorem di_rng1 {tg : Expr} {p : Pos} (hg : Gl X "range") (hm : X.mg "range" = none) (ha : DA X G [a] fa) (hs : starEach [a] X.env = [(false, eval a X.env)] := by rfl) : DI X G tg (.Call (.Name "range" p) [a] [] pos) (bnd fa rng1) :=
  PIi (pi_range1 hg hm ha hs) fun σ H R ⟨w, s, W, h⟩ => ⟨w, s, W, PostI.bind h fun ds s1 vs w1 H1 m1 W1 r1 h1 => by
    unfold rng1 at h1
    split at h1
    · split at h1
      · rename_i hb
        cases r1 with
        | cons r1 r2 =>
          cases r2
          cases r1 with
          | p t => cases t; exact ⟨_, rfl, hb.1, hb.2, h1 _ _ _ .refl W1 walk_rng⟩
      · exact h1.elim
    · exact h1.elim⟩
theorem di_rng2 {tg : Expr} {p : Pos} (hg : Gl X "range") (hm : X.mg "range" = none) (ha : DA X G [a, b] fa) (hs : starEach [a, b] X.env = [(false, eval a X.env), (false, eval b X.env)] := by rfl) (hs2 : starEach [b] X.env = [(false, eval b X.env)] := by rfl) :
    DI X G tg (.Call (.Name "range" p) [a, b] [] pos) (bnd fa rng2) :=
  PIi (pi_range2 hg hm ha hs hs2) fun σ H R ⟨w, s, W, h⟩ => ⟨w, s, W, PostI.bind h fun ds s1 vs w1 H1 m1 W1 r1 h1 => by
    unfold rng2 at h1
    split at h1
    · split at h1
      · rename_i hb
        cases r1 with
        | cons r1 r2 =>
          cases r2 with
          | cons r2 r3 =>
            cases r3
            cases r1 with
            | p t =>
              cases t
              cases r2 with
              | p t => cases t; exact ⟨_, _, rfl, hb, h1 _ _ _ .refl W1 walk_rng⟩
      · exact h1.elim
    · exact h1.elim⟩
/-- a text, sign by sign -/
def strL (z : Str) : List D := z.cps.toList.map fun c => .p (.str ⟨#[c]⟩)
def walkStr (d : D) : Sta → Res (List D) := fun s => match d with
  | .p (.str z) => .ok (strL z) s
  | _ => .bad
theorem di_str {tg : Expr} (ha : DE X G a f) : DI X G tg a (bnd f walkStr) :=
  PIi (pi_str ha) fun σ H R ⟨w, s, W, h⟩ => ⟨w, s, W, PostI.bind h fun d s1 v w1 H1 m1 W1 r1 h1 => by
    unfold walkStr at h1
    split at h1
    · rename_i z
      cases r1 with
      | p t =>
        cases t
        refine ⟨_, rfl, h1 _ _ _ .refl W1 ⟨_, _, by rw [show (strL z).length = z.cps.size by simp [strL]]; exact walk_str, fun _ _ _ => trivial, fun i H0 x H1 w0 hi m0 _ y => ?_⟩⟩
        obtain ⟨rfl, c, hc, rfl⟩ := y
        exact ⟨.inl rfl, fun w1 m1 _ => ⟨.p (.str ⟨#[c]⟩), by simp [strL, hc], .p (.str _)⟩⟩
    · exact h1.elim⟩
/-! ### for -/
def loopS (t : Tg) (b : Ex) : List D → Ex
  | [] => skip
  | d :: ds => fun s => match t d s with
    | some s1 => match b s1 with
      | .nx s2 => loopS t b ds s2
      | .cnt s2 => loopS t b ds s2
      | .brk s2 => .nx s2
      | r => r
    | none => .bad
/-- the yielded value's world -/
theorem yield_at {J : It} {ds : List D} {i : Nat} {x : V} {Y : Nat → Hp → V → Hp → Prop} {w0 : Wo} {H0 : Hp} (W : Wd X.K X.mg G.B w0 σ s H0)
    (y : (H1 = H0 ∨ ∃ T o, H0 T = none ∧ H1 = upd H0 T o) ∧ ∀ w1, Mono w0 H0 w1 H1 → (∀ T, H0 T = none → H1 T ≠ none → w1.I T) → ∃ d, ds[i]? = some d ∧ Vd X.K H1 w1 d x) :
    ∃ w1 d, Mono w0 H0 w1 H1 ∧ Wd X.K X.mg G.B w1 σ s H1 ∧ ds[i]? = some d ∧ Vd X.K H1 w1 d x := by
  obtain ⟨h, k⟩ := y
  rcases h with rfl | ⟨T, o, hT, rfl⟩
  · obtain ⟨d, e, v⟩ := k w0 .refl fun T h1 h2 => absurd h1 h2
    exact ⟨w0, d, .refl, W, e, v⟩
  · have m : Mono w0 H0 (w0.add T) (upd H0 T o) := (Ext.fresh hT).mono W.snd
    obtain ⟨d, e, v⟩ := k (w0.add T) m fun T' h1 h2 => by
      by_cases eT : T' = T
      · exact .inr eT
      · rw [upd_ne eT] at h2; exact absurd h1 h2
    exact ⟨w0.add T, d, m, W.fresh hT, e, v⟩
def forS (fi : Sta → Res (List D)) (t : Tg) (b : Ex) : Ex := bndS fi fun ds => loopS t b ds
theorem ds_for {tg : Expr} {fi : Sta → Res (List D)} {t : Tg} (hp : PassesOwn (model X.prog X.w) X.A X.env X.xe) (hc : X.calm = true) (hi : DI X G tg e fi) (hg : DG X G tg t) (hb : DSs X G sts gs) (hs : ∀ x, foldedSetIterable e X.env x = pure x := by intro _; rfl) :
    DS X G (.For tg e sts [] pos) (forS fi t gs) :=
  PSi (ps_for hp hc hi hg hb hs) fun D σ H ⟨w, s, W, h⟩ => by
    refine ⟨w, s, W, ?_⟩
    unfold forS bndS at h
    cases e : fi s with
    | bad => rw [e] at h; exact h.elim
    | ex c fs => rw [e] at h; exact h
    | ok ds s' =>
      rw [e] at h
      intro w1 H1 J m1 W1 wk
      obtain ⟨Gs, Y, wlk, hG, hY⟩ := wk
      refine for_it wlk (fun i σ H => ∃ w0 s, Mono w1 H1 w0 H ∧ Wd X.K X.mg G.B w0 σ s H ∧ PostS X G w0 H (loopS t gs (ds.drop i) s) D) ⟨w1, s', .refl, W1, by rw [List.drop_zero]; exact h.at m1⟩ (fun i σ H _ ⟨w0, s, m, W0, _⟩ => hG w0 H m) ?_ ?_
      · rintro i x σ2 H2 H3 hi ⟨w0, s, m, W0, h0⟩ y
        obtain ⟨w2, d, m2, W2, ed, vd⟩ := yield_at (J := J) (Y := Y) W0 (hY i H2 x H3 w0 hi m W0.snd y)
        refine ⟨w2, s, d, W2, vd, ?_⟩
        have ed' : ds.drop i = d :: ds.drop (i + 1) := by
          rw [List.drop_eq_getElem_cons hi]
          rw [List.getElem?_eq_getElem hi] at ed
          rw [Option.some.inj ed]
        rw [ed', loopS] at h0
        cases et : t d s with
        | none => simp only [et] at h0; exact h0.elim
        | some s3 =>
          simp only [et] at h0
          intro σ4 w4 H4 m4 W4
          refine ⟨w4, s3, W4, ?_⟩
          have mm : Mono w1 H1 w4 H4 := (m.trans m2).trans m4
          have h0 := h0.at (m2.trans m4)
          revert h0
          cases gs s3 with
          | nx s5 => exact fun h0 σ' w' H' m' W' => ⟨w', s5, mm.trans m', W', h0.at m'⟩
          | cnt s5 => exact fun h0 σ' w' H' m' W' => ⟨w', s5, mm.trans m', W', h0.at m'⟩
          | brk s5 => exact fun h0 => h0
          | ret d s5 => exact fun h0 => h0
          | ex c fs => exact fun h0 => h0
          | bad => exact fun h0 => h0
      · rintro σ2 H2 ⟨w0, s, m, W0, h0⟩
        rw [List.drop_length] at h0
        exact h0 σ2 w0 H2 .refl W0
end
end Dz
namespace Dz
open PySem PySem.Spec PyProof.Rows L2
section
variable {X : Cx} {G : Env} {σ σ' : L2.St} {w w1 w' : Wo} {H H1 H' : Hp} {s s1 s' : Sta} {K : PySem.W.Frag} {mg : Str → Option Value} {B : Ba}
variable {a b c e : Expr} {es : List Expr} {f g h : Ev} {pos p2 : Pos} {rest : List Expr} {st : Stmt} {sts sts2 : List Stmt} {gs hs : Ex}
/-! ### what a def promises -/
/-- a def as a function: its arguments, the store; its value, the store behind it -/
abbrev Fn := List D → Option (List MO) → Res D
def PostD (K : PySem.W.Frag) (mg : Str → Option Value) (w : Wo) (H : Hp) (E : XK) (r : Res D) (Q : VK) : Prop :=
  match r with
  | .ok d s' => ∀ v w' H', Ext w H w' H' → Sound w' H' → StOk K mg H' w' s'.st → Vd K H' w' d v → Q v H'
  | .ex c fs => ∀ cls dx w' H', Ext w H w' H' → Sound w' H' → XV K mg H' w' c fs cls dx → E cls dx H'
  | .bad => False
def spD (K : PySem.W.Frag) (mg : Str → Option Value) (m : Fn) : Sp := fun vs H Q E => ∃ w ds st, Sound w H ∧ StOk K mg H w st ∧ VdL K H w ds vs ∧ PostD K mg w H E (m ds st) Q
def endD (r : Fl) : Res D := match r with
  | .nx s => .ok (.p .non) s
  | .ret d s => .ok d s
  | .ex c fs => .ex c fs
  | _ => .bad
/-- a body as a function: n parameters, k further slots -/
def runD (n : Nat) (g : Ex) (k : Nat) : Fn := fun ds st => if ds.length = n then endD (g ⟨ds.map .v ++ List.replicate k .un, st⟩) else .bad
theorem start_at {ds : List D} {vs : List V} {N : List Str} {n k : Nat} (sn : Sound w H) (so : StOk K mg H w (s.st)) (t : VdL K H w ds vs) (hn : ds.length + k = N.length) (hs : s.sl = ds.map .v ++ List.replicate k .un) : Wd K mg ⟨w, H⟩ w (L2.start N vs) s H := by
  have ll := t.len
  refine ⟨.refl, sn, sn, so, fun i x e => ?_, ?_, fun i j _ hi _ => ?_⟩
  · rw [hs] at e
    by_cases hi : i < ds.length
    · rw [List.getElem?_append_left (by simpa using hi), List.getElem?_map] at e
      obtain ⟨d, ed, rfl⟩ := Option.map_eq_some_iff.mp e
      obtain ⟨v, ev, hv⟩ := t.at ed
      refine ⟨v, ?_, hv⟩
      unfold L2.start
      rw [List.getElem?_append_left (by rw [List.length_map, ← ll]; exact hi), List.getElem?_map, ev]
      rfl
    · rw [List.getElem?_append_right (by simpa using hi), List.getElem?_replicate] at e
      split at e
      · cases e; trivial
      · cases e
  · rw [hs]
    unfold L2.start
    simp only [List.length_append, List.length_map, List.length_replicate]
    omega
  · rw [hs] at hi
    exfalso
    by_cases h : i < ds.length
    · rw [List.getElem?_append_left (by simpa using h), List.getElem?_map, List.getElem?_eq_getElem h] at hi
      cases hi
    · rw [List.getElem?_append_right (by simpa using h), List.getElem?_replicate] at hi
      split at hi <;> cases hi
variable {P : Program} {wd : World} {base : Heap}
/-- THE RULE: a def by its body -/
theorem fnD {x qual : Str} {st : Stmt} {fa : Addr} {fd : FuncData} {N ps : List Str} {lv k : Nat} {g : Ex} (F : Fun K x qual st fa fd) (S : FnScope N ps (defScope st)) (hk : ps.length + k = N.length)
    (hb : ∀ (cdv : Value) (A : Around) (outer : List PySem.Env) (s : Shared) (H : Hp) (E : XK) (G : Env), Room lv (A.deeper (envOfC qual (defScope st) s.heap.objs.size fa cdv)) → G.E = E →
      DSs (cxOf (L2.CX P wd) P wd K mg base N qual (defScope st) fa cdv A outer s H E) G (defBody st) g) : FnOk P wd K mg base (L2.CX P wd) (lv + 1) fa fd ps (spD K mg (runD ps.length g k)) := by
  refine F.okX S (fun vs H Q E ⟨w, ds, st, _, _, t, h⟩ => ?_) fun cdv A outer s0 H vs Q E hr ⟨w, ds, st', sn, so, t, h⟩ => ?_
  · unfold runD at h
    split at h
    · rename_i hl; rw [← VdL.len t]; exact hl
    · exact h.elim
  unfold runD at h
  split at h
  · rename_i hl
    refine ⟨_, hb cdv A outer s0 H E ⟨⟨w, H⟩, E⟩ hr rfl, w, ⟨ds.map .v ++ List.replicate k .un, st'⟩, start_at (n := 0) sn so t (by omega) rfl, ?_⟩
    revert h
    unfold endD
    cases g ⟨ds.map .v ++ List.replicate k .un, st'⟩ with
    | nx s1 => exact fun h σ' w' H' _ W' => h .non w' H' W'.ext W'.snd W'.sto (.p .non)
    | ret d s1 => exact fun h => h
    | ex c fs => exact fun h => h
    | brk s1 => exact fun h => h.elim
    | cnt s1 => exact fun h => h.elim
    | bad => exact fun h => h.elim
  · exact h.elim
/-! ### calls -/
def noLoc : D → Bool
  | .loc _ => false
  | _ => true
/-- what comes from a def that has a store of its own: its store is known to no one else -/
def outD (d : D) (st : Option (List MO)) : Option D := match d with
  | .loc n => match st with
    | some S => match S[n]? with
      | some (.lst ds) => (ds.mapM unP).map fun xs => .p (.lst xs)
      | some (.dic kvs) => (kvs.mapM fun kd => (unP kd.2).map fun x => (kd.1, x)).map .dic
      | some (.dct kvs) => (kvs.mapM fun kd => (unP kd.2).map fun x => (kd.1, x)).map .dct
      | _ => none
    | none => none
  | d => some d
/-- a call of a def that has a store of its own -/
def callP (m : Fn) (fa : Sta → Res (List D)) : Ev := bnd fa fun ds s => if ds.all noLoc = true then (match m ds (some []) with
  | .ok d s' => match outD d s'.st with
    | some d' => .ok d' s
    | none => .bad
  | .ex c fs => .ex c fs
  | .bad => .bad) else .bad
/-- a call of a def that works on the store -/
def callS (m : Fn) (fa : Sta → Res (List D)) : Ev := bnd fa fun ds s => match m ds s.st with
  | .ok d s' => .ok d ⟨s.sl, s'.st⟩
  | .ex c fs => .ex c fs
  | .bad => .bad
theorem Vd.alone {d : D} {v : V} {ρ : List Addr} (h : Vd K H w d v) (n : noLoc d = true) : Vd K H ⟨ρ, w.I⟩ d v := by
  cases h with
  | p h => exact .p h
  | fz h1 h3 => exact .fz h1 h3
  | kt h1 h2 => exact .kt h1 h2
  | loc h => cases n
  | dic h1 h2 h3 => exact .dic h1 h2 h3
  | dct h1 h2 h3 => exact .dct h1 h2 h3
theorem VdL.alone {ρ : List Addr} : ∀ {ds : List D} {vs : List V}, VdL K H w ds vs → ds.all noLoc = true → VdL K H ⟨ρ, w.I⟩ ds vs
  | _, _, .nil, _ => .nil
  | _, _, .cons a t, n => by
    rw [List.all_cons, Bool.and_eq_true] at n
    exact .cons (a.alone n.1) (t.alone n.2)
/-- from a callee's world of its own, back -/
theorem Ext.back {w' : Wo} (W : Sound w H) (x : Ext ⟨[], w.I⟩ H w' H') (sn : Sound w' H') : Ext w H ⟨w.ρ, w'.I⟩ H' ∧ Sound ⟨w.ρ, w'.I⟩ H' := by
  refine ⟨⟨fun a o e _ => x.keep a o e (by simp), fun _ _ e => e, fun _ h => .inl h, x.imm, x.newi, x.there, x.tup⟩, ⟨W.nd, fun a h z => W.rt a h (x.there a z), fun a h z => ?_, sn.it⟩⟩
  rcases x.newi a z with z | z
  · exact W.ri a h z
  · exact W.rt a h z
theorem VdK.td {κ : Type} : ∀ {ds : List (κ × D)} {xs : List (κ × Dz.P)} {vs : List (κ × V)}, VdK K H w ds vs → ds.mapM (fun kd => (unP kd.2).map fun x => (kd.1, x)) = some xs → TdK K false H w.I xs vs
  | [], xs, _, .nil, e => by simp at e; subst e; exact .nil
  | (k, d) :: ds, xs, _, .cons a t, e => by
    rw [List.mapM_cons] at e
    cases d with
    | p x =>
      rw [show unP (D.p x) = some x from rfl] at e
      simp only [Option.map_some, Option.pure_def, Option.bind_eq_bind, Option.bind_some] at e
      cases e2 : ds.mapM (fun kd => (unP kd.2).map fun x => (kd.1, x)) with
      | none => rw [e2] at e; simp at e
      | some ys =>
        rw [e2] at e
        simp at e
        subst e
        cases a with
        | p a => exact .cons a (VdK.td t e2)
    | _ => simp [unP] at e
theorem out_at {w' : Wo} {d d' : D} {v : V} {st : Option (List MO)} (W : Sound w H) (x : Ext ⟨[], w.I⟩ H w' H') (sn : Sound w' H') (so : StOk K mg H' w' st) (hv : Vd K H' w' d v) (e : outD d st = some d') :
    ∃ I', Ext w H ⟨w.ρ, I'⟩ H' ∧ Sound ⟨w.ρ, I'⟩ H' ∧ Vd K H' ⟨w.ρ, I'⟩ d' v := by
  have old : ∀ d, noLoc d = true → Vd K H' w' d v → ∃ I', Ext w H ⟨w.ρ, I'⟩ H' ∧ Sound ⟨w.ρ, I'⟩ H' ∧ Vd K H' ⟨w.ρ, I'⟩ d v := fun d n h => by
    obtain ⟨x', sn'⟩ := Ext.back W x sn
    exact ⟨w'.I, x', sn', h.alone n⟩
  cases hv with
  | @loc n a hn =>
    have na : H a = none := by
      rcases x.newr a (List.mem_of_getElem? hn) with z | z
      · cases z
      · exact z
    have x2 : Ext ⟨[], w.I⟩ H ⟨[], fun b => w'.I b ∨ b = a⟩ H' := ⟨x.keep, fun _ _ z => z, fun _ z => .inl z, fun b h => .inl (x.imm b h), fun b h => by
      rcases h with h | rfl
      · exact x.newi b h
      · exact .inr na, x.there, x.tup⟩
    have sn2 : Sound ⟨[], fun b => w'.I b ∨ b = a⟩ H' := ⟨.nil, fun _ z => (nomatch z), fun _ z => (nomatch z), fun b h => h.elim (fun h => sn.it b h) fun z => by rw [z]; exact sn.rt _ (List.mem_of_getElem? hn)⟩
    obtain ⟨x', sn'⟩ := Ext.back W x2 sn2
    refine ⟨fun b => w'.I b ∨ b = a, x', sn', ?_⟩
    have up : MI H' w'.I H' (fun b => w'.I b ∨ b = a) := .sub fun b h => .inl h
    unfold outD at e
    simp only at e
    split at e
    · rename_i S
      split at e
      · rename_i ds em
        obtain ⟨xs, ex, rfl⟩ := Option.map_eq_some_iff.mp e
        cases so.2 n a _ hn em with
        | lst h1 t => exact .p (.lst h1 (.inr rfl) ((t.td ex).mono up))
      · rename_i kvs em
        obtain ⟨xs, ex, rfl⟩ := Option.map_eq_some_iff.mp e
        cases so.2 n a _ hn em with
        | dic h1 t => exact .dic (.inl h1) (.inr rfl) ((t.td ex).mono up)
      · rename_i kvs em
        obtain ⟨xs, ex, rfl⟩ := Option.map_eq_some_iff.mp e
        cases so.2 n a _ hn em with
        | dct h1 t => exact .dct (.inl h1) (.inr rfl) ((t.td ex).mono up)
      · cases e
    · cases e
  | p h => cases e; exact old _ rfl (.p h)
  | fz h1 h3 => cases e; exact old _ rfl (.fz h1 h3)
  | kt h1 h2 => cases e; exact old _ rfl (.kt h1 h2)
  | dic h1 h2 h3 => cases e; exact old _ rfl (.dic h1 h2 h3)
  | dct h1 h2 h3 => cases e; exact old _ rfl (.dct h1 h2 h3)
theorem callP_at {m : Fn} {ds : List D} {vs : List V} {Q : VK} (W : Wd X.K X.mg G.B w σ s H) (t : VdL X.K H w ds vs)
    (h : Post X G (RD X) σ w H (if ds.all noLoc = true then (match m ds (some []) with | .ok d s' => (match outD d s'.st with | some d' => .ok d' s | none => .bad) | .ex c fs => .ex c fs | .bad => .bad) else .bad) Q) : spD X.K X.mg m vs H Q G.E := by
  split at h
  · rename_i hl
    refine ⟨⟨[], w.I⟩, ds, some [], ⟨.nil, fun a h => (by cases h), fun a h => (by cases h), W.snd.it⟩, ⟨rfl, fun n a m e => (by simp at e)⟩, t.alone hl, ?_⟩
    revert h
    cases m ds (some []) with
    | bad => exact fun h => h.elim
    | ex c fs =>
      exact fun h cls dx w' H' x sn xv => by
        obtain ⟨x', sn'⟩ := Ext.back W.snd x sn
        exact h cls dx _ H' (W.ext.trans x') sn' xv
    | ok d s' =>
      intro h v w' H' x sn so hv
      simp only at h
      split at h
      · rename_i d' ed
        obtain ⟨I', x', sn', hv'⟩ := out_at W.snd x sn so hv ed
        exact h v ⟨w.ρ, I'⟩ H' (x'.mono W.snd) (W.step x' sn' (W.sto.mono (fun a o e => x.keep a o e (by simp)) (x'.mono W.snd) rfl)) hv'
      · exact h.elim
  · exact h.elim
theorem callS_at {m : Fn} {ds : List D} {vs : List V} {Q : VK} (W : Wd X.K X.mg G.B w σ s H) (t : VdL X.K H w ds vs)
    (h : Post X G (RD X) σ w H (match m ds s.st with | .ok d s' => .ok d ⟨s.sl, s'.st⟩ | .ex c fs => .ex c fs | .bad => .bad) Q) : spD X.K X.mg m vs H Q G.E := by
  refine ⟨w, ds, s.st, W.snd, W.sto, t, ?_⟩
  revert h
  cases m ds s.st with
  | bad => exact fun h => h.elim
  | ex c fs => exact fun h cls dx w' H' x sn xv => h cls dx w' H' (W.ext.trans x) sn xv
  | ok d s' => exact fun h v w' H' x sn so hv => h v w' H' (x.mono W.snd) (W.step x sn so) hv
/-- a def that is there, at most at this level -/
structure HasD (P : Program) (wd : World) (K : PySem.W.Frag) (mg : Str → Option Value) (base : Heap) (lv : Nat) (x : Str) (ps : List Str) (m : Fn) : Prop where
  here : ∃ fa fd, FnOk P wd K mg base (L2.CX P wd) lv fa fd ps (spD K mg m) ∧ mg x = some (.ref fa) ∧ PySem.W.keepIn K (.ref fa) = true ∧ Binds K fd ps []
variable {lv lw : Nat} {x : Str} {ps : List Str} {m : Fn} {p : Pos} {fa : Sta → Res (List D)} {W0 : WX}
theorem HasD.mono (F : HasD P wd K mg base lv x ps m) (h : lv ≤ lw) : HasD P wd K mg base lw x ps m := by
  obtain ⟨fa, fd, F, h1, h2, h3⟩ := F.here
  exact ⟨fa, fd, F.mono h, h1, h2, h3⟩
/-- the value behind -/
theorem Post.of {α β : Type} {R : Hp → Wo → α → β → Prop} {f : Sta → Res α} {g : α → Sta → Res D} {Q : VK} {Q1 : β → Hp → Prop} (h : Post X G (RD X) σ w H (bnd f g s) Q)
    (k : ∀ a s1 b w1 H1, Wd X.K X.mg G.B w1 σ s1 H1 → R H1 w1 a b → Post X G (RD X) σ w1 H1 (g a s1) Q → Q1 b H1) : Post X G R σ w H (f s) Q1 := h.bind fun a s1 b w1 H1 _ W1 r1 h1 => k a s1 b w1 H1 W1 r1 h1
theorem de_callP (F : HasD X.prog X.w X.K X.mg X.base lv x ps m) (hr : Room lw X.A) (hlv : lv ≤ lw) (hx : Passes (L2.CX X.prog X.w) X G.E) (hg : Gl X x) (ha : DA X G (e :: es) fa)
    (hdb : (x == ("__debug__" : Str)) = false := by decide) (he : starEach (e :: es) X.env = (false, eval e X.env) :: starEach es X.env := by rfl) (hpl : (backTo pos (starEach es X.env)).any (·.1) = false := by rfl) :
    DE X G (.Call (.Name x p) (e :: es) [] pos) (callP m fa) := by
  obtain ⟨fa', fd, Fk, h1, h2, h3⟩ := F.here
  exact PEi (pe_call Fk (hr.mono hlv) hg h1 h2 h3 .nil hx ha hdb he hpl) fun σ H Q ⟨w, s, W, h⟩ => ⟨w, s, W, Post.of h fun ds s1 vs w1 H1 W1 r1 h1 => by
    rw [List.append_nil]
    exact callP_at W1 r1 h1⟩
theorem de_callS (F : HasD X.prog X.w X.K X.mg X.base lv x ps m) (hr : Room lw X.A) (hlv : lv ≤ lw) (hx : Passes (L2.CX X.prog X.w) X G.E) (hg : Gl X x) (ha : DA X G (e :: es) fa)
    (hdb : (x == ("__debug__" : Str)) = false := by decide) (he : starEach (e :: es) X.env = (false, eval e X.env) :: starEach es X.env := by rfl) (hpl : (backTo pos (starEach es X.env)).any (·.1) = false := by rfl) :
    DE X G (.Call (.Name x p) (e :: es) [] pos) (callS m fa) := by
  obtain ⟨fa', fd, Fk, h1, h2, h3⟩ := F.here
  exact PEi (pe_call Fk (hr.mono hlv) hg h1 h2 h3 .nil hx ha hdb he hpl) fun σ H Q ⟨w, s, W, h⟩ => ⟨w, s, W, Post.of h fun ds s1 vs w1 H1 W1 r1 h1 => by
    rw [List.append_nil]
    exact callS_at W1 r1 h1⟩
/-- a body is checked: exceptions and calls -/
theorem passD {X : Cx} {G : Env} (tk : Takes X (fun cls d _ H => G.E cls d H)) : Passes (L2.CX X.prog X.w) X G.E := passes_call tk fun _ _ _ _ h => h
end
end Dz
namespace Dz
open PySem PySem.Spec PyProof.Rows L2
/-! ### what is looked at for a moment -/
inductive Pk where
  | d (x : D) | lin (m : Lin)
def RP (K : PySem.W.Frag) : Hp → Wo → Pk → V → Prop := fun H w p v => match p with
  | .d x => Vd K H w x v
  | .lin m => ∃ a, v = .ref a ∧ LOk K H w.I a m
def seqPk (p : Pk) (s : Sta) : Option (List D) := match p with
  | .d x => seqOf x s
  | .lin (.lst xs) => some (xs.map .p)
  | _ => none
def dicPk (p : Pk) (s : Sta) : Option (List (Key × D)) := match p with
  | .d x => dicOf x s
  | .lin (.dic kvs) => some (kvs.map fun kv => (kv.1, .p kv.2))
  | _ => none
def dctPk (p : Pk) (s : Sta) : Option (List (List Key × D)) := match p with
  | .d x => dctOf x s
  | .lin (.dct kvs) => some (kvs.map fun kv => (kv.1, .p kv.2))
  | _ => none
section
variable {X : Cx} {G : Env} {σ σ' : L2.St} {w w1 w' : Wo} {H H1 H' : Hp} {s s1 s' : Sta} {K : PySem.W.Frag} {mg : Str → Option Value} {B : Ba}
variable {a b c e : Expr} {es : List Expr} {f g h : Ev} {pos p2 p : Pos} {rest : List Expr} {st : Stmt} {sts sts2 : List Stmt} {gs hs : Ex} {x : Str}
theorem seqPk_at {k : Pk} {v : V} {ds : List D} (W : Wd K mg B w σ s H) (h : RP K H w k v) (e : seqPk k s = some ds) : ∃ a vs, v = .ref a ∧ (SqL K H a vs ∨ SqT K H a vs) ∧ VdL K H w ds vs := by
  cases k with
  | d x => exact seq_at W h e
  | lin m =>
    obtain ⟨a, rfl, l⟩ := h
    cases l with
    | lst h t => cases e; exact ⟨a, _, rfl, .inl (.of h), t.vd⟩
    | dic _ _ => cases e
    | dct _ _ => cases e
theorem dicPk_at {k : Pk} {v : V} {ds : List (Key × D)} (W : Wd K mg B w σ s H) (h : RP K H w k v) (e : dicPk k s = some ds) : ∃ a vs, v = .ref a ∧ Rd H a (.dK vs) ∧ VdK K H w ds vs := by
  cases k with
  | d x => exact dic_at W h e
  | lin m =>
    obtain ⟨a, rfl, l⟩ := h
    cases l with
    | dic h t => cases e; exact ⟨a, _, rfl, .inl h, t.vd⟩
    | lst _ _ => cases e
    | dct _ _ => cases e
theorem dctPk_at {k : Pk} {v : V} {ds : List (List Key × D)} (W : Wd K mg B w σ s H) (h : RP K H w k v) (e : dctPk k s = some ds) : ∃ a vs, v = .ref a ∧ Rd H a (.dT vs) ∧ VdK K H w ds vs := by
  cases k with
  | d x => exact dct_at W h e
  | lin m =>
    obtain ⟨a, rfl, l⟩ := h
    cases l with
    | dct h t => cases e; exact ⟨a, _, rfl, .inl h, t.vd⟩
    | lst _ _ => cases e
    | dic _ _ => cases e
def tP (X : Cx) (G : Env) (f : Sta → Res Pk) : TE := fun σ H Q => ∃ w s, Wd X.K X.mg G.B w σ s H ∧ Post X G (RP X.K) σ w H (f s) Q
def DP (X : Cx) (G : Env) (e : Expr) (f : Sta → Res Pk) : Prop := PE X e (tP X G f)
def asPk (f : Ev) : Sta → Res Pk := bnd f fun d s => .ok (.d d) s
/-- a name that is looked at -/
def pk (i : Nat) : Sta → Res Pk := fun s => match s.sl[i]? with
  | some (.v d) => .ok (.d d) s
  | some (.lin m) => .ok (.lin m) s
  | _ => .bad
theorem dp_of (ha : DE X G a f) : DP X G a (asPk f) := PEi ha fun σ H Q ⟨w, s, W, h⟩ => ⟨w, s, W, h.bind fun d s1 v w1 H1 m1 W1 r1 h1 => Post.here (R := RP X.K) W1 (show RP X.K H1 w1 (.d d) v from r1) h1⟩
theorem dp_var {i : Nat} {x : Str} {pos : Pos} (hN : X.N[i]? = some x := by rfl) (hv : Vis X.env.scope x := by first | exact Or.inl rfl | exact Or.inr (Or.inl rfl) | exact Or.inr (Or.inr rfl)) (hd : (x == ("__debug__" : Str)) = false := by decide)
    (hcd : (x == ("__classdict__" : Str)) = false := by decide) : DP X G (.Name x pos) (pk i) :=
  PEi (pe_var (i := i) hN hv hd hcd) fun σ H Q ⟨w, s, W, h⟩ => by
    unfold pk at h
    split at h
    · rename_i d e
      obtain ⟨v, e1, h1⟩ := W.sl i _ e
      exact ⟨v, e1, Post.here (R := RP X.K) W (show RP X.K H w (.d d) v from h1) h⟩
    · rename_i m e
      obtain ⟨a, e1, l, _⟩ := W.sl i _ e
      exact ⟨_, e1, Post.here (R := RP X.K) W (show RP X.K H w (.lin m) (.ref a) from ⟨a, rfl, l⟩) h⟩
    · exact h.elim
variable {fp : Sta → Res Pk}
/-! ### builtins of one value -/
def U1P (X : Cx) (G : Env) (r : List V → Hp → VK → Prop) (k : Pk → Ev) : Prop := ∀ σ w s H p v Q, Wd X.K X.mg G.B w σ s H → RP X.K H w p v → Post X G (RD X) σ w H (k p s) Q → r [v] H Q
def U1F (X : Cx) (G : Env) (r : List V → Hp → VK → Prop) (k : Pk → Sta → Res Lin) : Prop := ∀ σ w s H p v Q, Wd X.K X.mg G.B w σ s H → RP X.K H w p v → PostF X G σ w H (k p s) Q → r [v] H Q
theorem de_b1 {id : String} {r : List V → Hp → VK → Prop} {k : Pk → Ev} (hc : CallR X (.builtin id) r) (hk : U1P X G r k) (hg : Gl X x) (hm : X.mg x = none) (hv : bootBuiltins x = some (.builtin id)) (ha : DP X G a fp) (hn : x ≠ "__name__" := by decide) (hdb : (x == ("__debug__" : Str)) = false := by decide)
    (h1 : starEach [a] X.env = (false, eval a X.env) :: starEach [] X.env := by rfl) (hpl : (backTo pos (starEach [] X.env)).any (·.1) = false := by rfl) : DE X G (.Call (.Name x p) [a] [] pos) (bnd fp k) :=
  PEi (pe_callB hc hg hm hv (pa_cons ha pa_nil h1) hn hdb h1 hpl) fun σ H Q ⟨w, s, W, h⟩ => ⟨w, s, W, h.bind fun q s1 v w1 H1 m1 W1 r1 h1 => hk _ _ _ _ _ _ _ W1 r1 h1⟩
theorem de_t1 {T : String} {r : List V → Hp → VK → Prop} {k : Pk → Ev} (hc : CallR X (.type T) r) (hk : U1P X G r k) (hg : Gl X x) (hm : X.mg x = none) (hv : bootBuiltins x = some (.type T)) (ha : DP X G a fp) (hn : x ≠ "__name__" := by decide) (hdb : (x == ("__debug__" : Str)) = false := by decide)
    (h1 : starEach [a] X.env = (false, eval a X.env) :: starEach [] X.env := by rfl) (hpl : (backTo pos (starEach [] X.env)).any (·.1) = false := by rfl) : DE X G (.Call (.Name x p) [a] [] pos) (bnd fp k) :=
  PEi (pe_callTy hc hg hm hv (pa_cons ha pa_nil h1) hn hdb h1 hpl) fun σ H Q ⟨w, s, W, h⟩ => ⟨w, s, W, h.bind fun q s1 v w1 H1 m1 W1 r1 h1 => hk _ _ _ _ _ _ _ W1 r1 h1⟩
theorem df_b1 {id : String} {r : List V → Hp → VK → Prop} {k : Pk → Sta → Res Lin} (hc : CallR X (.builtin id) r) (hk : U1F X G r k) (hg : Gl X x) (hm : X.mg x = none) (hv : bootBuiltins x = some (.builtin id)) (ha : DP X G a fp) (hn : x ≠ "__name__" := by decide) (hdb : (x == ("__debug__" : Str)) = false := by decide)
    (h1 : starEach [a] X.env = (false, eval a X.env) :: starEach [] X.env := by rfl) (hpl : (backTo pos (starEach [] X.env)).any (·.1) = false := by rfl) : DF X G (.Call (.Name x p) [a] [] pos) (bnd fp k) :=
  PEi (pe_callB hc hg hm hv (pa_cons ha pa_nil h1) hn hdb h1 hpl) fun σ H Q ⟨w, s, W, h⟩ => ⟨w, s, W, PostF.bind h fun q s1 v w1 H1 m1 W1 r1 h1 => hk _ _ _ _ _ _ _ W1 r1 h1⟩
theorem df_t1 {T : String} {r : List V → Hp → VK → Prop} {k : Pk → Sta → Res Lin} (hc : CallR X (.type T) r) (hk : U1F X G r k) (hg : Gl X x) (hm : X.mg x = none) (hv : bootBuiltins x = some (.type T)) (ha : DP X G a fp) (hn : x ≠ "__name__" := by decide) (hdb : (x == ("__debug__" : Str)) = false := by decide)
    (h1 : starEach [a] X.env = (false, eval a X.env) :: starEach [] X.env := by rfl) (hpl : (backTo pos (starEach [] X.env)).any (·.1) = false := by rfl) : DF X G (.Call (.Name x p) [a] [] pos) (bnd fp k) :=
  PEi (pe_callTy hc hg hm hv (pa_cons ha pa_nil h1) hn hdb h1 hpl) fun σ H Q ⟨w, s, W, h⟩ => ⟨w, s, W, PostF.bind h fun q s1 v w1 H1 m1 W1 r1 h1 => hk _ _ _ _ _ _ _ W1 r1 h1⟩
/-- by a pure function of the data -/
def fnK (k : Pk → Sta → Option P) : Pk → Ev := fun p s => match k p s with
  | some x => .ok (.p x) s
  | none => .bad
theorem fnK_at {k : Pk → Sta → Option P} {q : Pk} {Q : VK} (h : Post X G (RD X) σ w H (fnK k q s) Q) : ∃ x, k q s = some x ∧ Post X G (RD X) σ w H (.ok (.p x) s) Q := by
  unfold fnK at h
  split at h
  · rename_i x e; exact ⟨x, e, h⟩
  · exact h.elim
/-- len -/
def lenP (p : Pk) (s : Sta) : Option P := match p with
  | .d (.p (.str x)) => if x.length ≤ sizeLine then some (.int x.length) else none
  | p => match seqPk p s with
    | some ds => some (.int ds.length)
    | none => match dicPk p s with
      | some kvs => some (.int kvs.length)
      | none => (dctPk p s).map fun kvs => .int kvs.length
theorem call_lenRd : CallR X (.builtin "len") (fun xs H Q => ∃ a kvs, xs = [V.ref a] ∧ Rd H a (.dK kvs) ∧ Q (.int kvs.length) H) := by
  intro pins s σ H xs us Q I r h
  obtain ⟨a, kvs, rfl, ha, q⟩ := h
  obtain ⟨u, rfl, ru⟩ := vals1 r
  cases ru
  exact d_len I ha fun t s' I' => ⟨.int kvs.length, H, I', ⟨t, rfl⟩, q⟩
theorem call_lenRdT : CallR X (.builtin "len") (fun xs H Q => ∃ a kvs, xs = [V.ref a] ∧ Rd H a (.dT kvs) ∧ Q (.int ((kvs.length : Nat) : Int)) H) := by
  intro pins s σ H xs us Q I r h
  obtain ⟨p, kvs, rfl, hp, q⟩ := h
  obtain ⟨u, rfl, rx⟩ := vals1 r
  obtain rfl : u = .ref p := rx
  obtain ⟨z, hd, ys, rel, dd⟩ := dt_rd I.hok hp
  have hl : kvs.length = ys.length := Paired.length rel
  refine call_len_dictH hd dd (by rw [← hl]; rw [sizeLine_eq] at z; omega) ?_
  rw [← hl]
  exact ⟨.int ((kvs.length : Nat) : Int), H, I.tok _, ⟨_, rfl⟩, q⟩
def rLen (K : PySem.W.Frag) : List V → Hp → VK → Prop := fun xs H Q => (∃ x, xs = [.str x] ∧ x.length ≤ sizeLine ∧ Q (.int x.length) H) ∨ ((∃ p ys, xs = [.ref p] ∧ (SqL K H p ys ∨ SqT K H p ys) ∧ Q (.int ys.length) H) ∨ ((∃ a kvs, xs = [V.ref a] ∧ Rd H a (.dK kvs) ∧ Q (.int kvs.length) H) ∨ ∃ a kvs, xs = [V.ref a] ∧ Rd H a (.dT kvs) ∧ Q (.int ((kvs.length : Nat) : Int)) H))
theorem call_lenP : CallR X (.builtin "len") (rLen X.K) := call_len_str.or (call_len_seq.or (call_lenRd.or call_lenRdT))
theorem VdK.len {κ : Type} {ds : List (κ × D)} {vs : List (κ × V)} (t : VdK K H w ds vs) : ds.length = vs.length := by induction t <;> simp_all
theorem u_len : U1P X G (rLen X.K) (fnK lenP) := by
  intro σ w s H q v Q W r h
  obtain ⟨x, e, h⟩ := fnK_at h
  unfold lenP at e
  split at e
  · split at e
    · rename_i hz
      cases e
      cases (show Vd X.K H w _ v from r) with
      | p t => cases t; exact .inl ⟨_, rfl, hz, Post.here W (.p (.int _)) h⟩
    · cases e
  · split at e
    · rename_i ds es
      cases e
      obtain ⟨a, vs, rfl, hq, tl⟩ := seqPk_at W r es
      exact .inr (.inl ⟨a, vs, rfl, hq, by rw [← tl.len]; exact Post.here W (.p (.int _)) h⟩)
    · split at e
      · rename_i kvs ek
        cases e
        obtain ⟨a, vs, rfl, hq, tl⟩ := dicPk_at W r ek
        exact .inr (.inr (.inl ⟨a, vs, rfl, hq, by rw [← tl.len]; exact Post.here W (.p (.int _)) h⟩))
      · obtain ⟨kvs, ek, rfl⟩ := Option.map_eq_some_iff.mp e
        obtain ⟨a, vs, rfl, hq, tl⟩ := dctPk_at W r ek
        exact .inr (.inr (.inr ⟨a, vs, rfl, hq, by rw [← tl.len]; exact Post.here W (.p (.int _)) h⟩))
theorem de_len (hg : Gl X "len") (hm : X.mg "len" = none) (ha : DP X G a fp) (h1 : starEach [a] X.env = (false, eval a X.env) :: starEach [] X.env := by rfl) : DE X G (.Call (.Name "len" p) [a] [] pos) (bnd fp (fnK lenP)) := de_b1 call_lenP u_len hg hm PySem.boot_len ha (h1 := h1)
/-- abs, int, bool, str -/
def absP (p : Pk) (_ : Sta) : Option P := match p with
  | .d (.p (.int i)) => some (.int (if i < 0 then -i else i))
  | _ => none
def intP (p : Pk) (_ : Sta) : Option P := match p with
  | .d (.p (.int i)) => some (.int i)
  | .d (.p (.bl b)) => some (.int (if b then 1 else 0))
  | _ => none
def boolP (p : Pk) (_ : Sta) : Option P := match p with
  | .d (.p (.int i)) => some (.bl (i != 0))
  | .d (.p (.bl b)) => some (.bl b)
  | _ => none
def strP (p : Pk) (_ : Sta) : Option P := match p with
  | .d (.p (.int i)) => if i.natAbs.log2 < 1920 then some (.str (toString i)) else none
  | _ => none
theorem u_abs : U1P X G (fun xs H Q => ∃ i, xs = [.int i] ∧ Q (.int (if i < 0 then -i else i)) H) (fnK absP) := by
  intro σ w s H q v Q W r h
  obtain ⟨x, e, h⟩ := fnK_at h
  unfold absP at e
  split at e
  · cases e; cases (show Vd X.K H w _ v from r) with | p t => cases t; exact ⟨_, rfl, Post.here W (.p (.int _)) h⟩
  · cases e
theorem u_intc : U1P X G (fun xs H Q => (∃ i, xs = [.int i] ∧ Q (.int i) H) ∨ ∃ k, xs = [.bl k] ∧ Q (.int (if k then 1 else 0)) H) (fnK intP) := by
  intro σ w s H q v Q W r h
  obtain ⟨x, e, h⟩ := fnK_at h
  unfold intP at e
  split at e
  · cases e; cases (show Vd X.K H w _ v from r) with | p t => cases t; exact .inl ⟨_, rfl, Post.here W (.p (.int _)) h⟩
  · cases e; cases (show Vd X.K H w _ v from r) with | p t => cases t; exact .inr ⟨_, rfl, Post.here W (.p (.int _)) h⟩
  · cases e
theorem u_boolc : U1P X G (fun xs H Q => (∃ i, xs = [.int i] ∧ Q (.bl (i != 0)) H) ∨ ∃ k, xs = [.bl k] ∧ Q (.bl k) H) (fnK boolP) := by
  intro σ w s H q v Q W r h
  obtain ⟨x, e, h⟩ := fnK_at h
  unfold boolP at e
  split at e
  · cases e; cases (show Vd X.K H w _ v from r) with | p t => cases t; exact .inl ⟨_, rfl, Post.here W (.p (.bl _)) h⟩
  · cases e; cases (show Vd X.K H w _ v from r) with | p t => cases t; exact .inr ⟨_, rfl, Post.here W (.p (.bl _)) h⟩
  · cases e
theorem u_strc : U1P X G (fun xs H Q => ∃ i, xs = [.int i] ∧ i.natAbs.log2 < 1920 ∧ Q (.str (toString i)) H) (fnK strP) := by
  intro σ w s H q v Q W r h
  obtain ⟨x, e, h⟩ := fnK_at h
  unfold strP at e
  split at e
  · split at e
    · rename_i hz; cases e; cases (show Vd X.K H w _ v from r) with | p t => cases t; exact ⟨_, rfl, hz, Post.here W (.p (.str _)) h⟩
    · cases e
  · cases e
theorem de_abs (hg : Gl X "abs") (hm : X.mg "abs" = none) (ha : DP X G a fp) (h1 : starEach [a] X.env = (false, eval a X.env) :: starEach [] X.env := by rfl) : DE X G (.Call (.Name "abs" p) [a] [] pos) (bnd fp (fnK absP)) := de_b1 call_abs u_abs hg hm (by decide +kernel) ha (h1 := h1)
theorem de_intc (hg : Gl X "int") (hm : X.mg "int" = none) (ha : DP X G a fp) (h1 : starEach [a] X.env = (false, eval a X.env) :: starEach [] X.env := by rfl) : DE X G (.Call (.Name "int" p) [a] [] pos) (bnd fp (fnK intP)) := de_t1 call_int1 u_intc hg hm (by decide +kernel) ha (h1 := h1)
theorem de_boolc (hg : Gl X "bool") (hm : X.mg "bool" = none) (ha : DP X G a fp) (h1 : starEach [a] X.env = (false, eval a X.env) :: starEach [] X.env := by rfl) : DE X G (.Call (.Name "bool" p) [a] [] pos) (bnd fp (fnK boolP)) := de_t1 call_bool1 u_boolc hg hm (by decide +kernel) ha (h1 := h1)
theorem de_strc (hg : Gl X "str") (hm : X.mg "str" = none) (ha : DP X G a fp) (h1 : starEach [a] X.env = (false, eval a X.env) :: starEach [] X.env := by rfl) : DE X G (.Call (.Name "str" p) [a] [] pos) (bnd fp (fnK strP)) := de_t1 call_str_int u_strc hg hm (by decide +kernel) ha (h1 := h1)
/-- tuple(xs), list(xs) -/
def tupP (p : Pk) (s : Sta) : Option P := match p with
  | .lin (.lst xs) => some (.tup xs)
  | .d (.p (.lst xs)) => some (.tup xs)
  | .d (.p (.tup xs)) => some (.tup xs)
  | .d (.loc n) => match s.st with
    | some S => match S[n]? with
      | some (.lst ds) => (ds.mapM unP).map .tup
      | _ => none
    | none => none
  | _ => none
theorem u_tupc : U1P X G (fun xs H Q => ∃ p ys, xs = [.ref p] ∧ ((SqL X.K H p ys ∧ ∀ l, H l = none → Q (.ref l) (upd H l (.tup ys))) ∨ (SqT X.K H p ys ∧ Q (.ref p) H))) (fnK tupP) := by
  intro σ w s H q v Q W r h
  obtain ⟨x, e, h⟩ := fnK_at h
  unfold tupP at e
  split at e
  · cases e
    obtain ⟨a, rfl, l⟩ := r
    cases l with
    | lst h1 t => exact ⟨a, _, rfl, .inl ⟨.of h1, fun l nl => Post.newT W t nl h⟩⟩
  · cases e
    cases (show Vd X.K H w _ v from r) with
    | p t => cases t with | lst h1 h2 t => exact ⟨_, _, rfl, .inl ⟨.of h1, fun l nl => Post.newT W t nl h⟩⟩
  · cases e
    cases (show Vd X.K H w _ v from r) with
    | p t =>
      cases t with
      | tup h1 t => exact ⟨_, _, rfl, .inr ⟨.of h1, Post.here W (.p (.tup h1 t)) h⟩⟩
      | tupK hq _ _ => cases hq
  · rename_i n
    split at e
    · rename_i S es
      split at e
      · rename_i ds em
        obtain ⟨xs, ex, rfl⟩ := Option.map_eq_some_iff.mp e
        cases (show Vd X.K H w (.loc n) v from r) with
        | @loc _ a hn =>
          have so := W.sto
          rw [es] at so
          cases so.2 n a _ hn em with
          | lst h1 t => exact ⟨a, _, rfl, .inl ⟨.of h1, fun l nl => Post.newT W (t.td ex) nl h⟩⟩
      · cases e
    · cases e
  · cases e
def listF (p : Pk) (s : Sta) : Res Lin := match seqPk p s with
  | some ds => match ds.mapM unP with
    | some xs => .ok (.lst xs) s
    | none => .bad
  | none => .bad
theorem u_listc : U1F X G (fun xs H Q => ∃ p ys, xs = [.ref p] ∧ (SqL X.K H p ys ∨ SqT X.K H p ys) ∧ ∀ l, H l = none → Q (.ref l) (upd H l (.lst ys))) listF := by
  intro σ w s H q v Q W r h
  unfold listF at h
  split at h
  · rename_i ds es
    split at h
    · rename_i xs ex
      obtain ⟨a, vs, rfl, hq, tl⟩ := seqPk_at W r es
      exact ⟨a, vs, rfl, hq, fun l nl => PostF.new W nl (fun mo => .lst upd_same ((tl.td ex).mono mo.imm)) h⟩
    · exact h.elim
  · exact h.elim
theorem de_tupc (hg : Gl X "tuple") (hm : X.mg "tuple" = none) (ha : DP X G a fp) (h1 : starEach [a] X.env = (false, eval a X.env) :: starEach [] X.env := by rfl) : DE X G (.Call (.Name "tuple" p) [a] [] pos) (bnd fp (fnK tupP)) := de_t1 call_tuple_of u_tupc hg hm (by decide +kernel) ha (h1 := h1)
theorem df_listc (hg : Gl X "list") (hm : X.mg "list" = none) (ha : DP X G a fp) (h1 : starEach [a] X.env = (false, eval a X.env) :: starEach [] X.env := by rfl) : DF X G (.Call (.Name "list" p) [a] [] pos) (bnd fp listF) := df_t1 call_list_of u_listc hg hm (by decide +kernel) ha (h1 := h1)
end
end Dz
namespace Dz
open PySem PySem.Spec PyProof.Rows L2
section
variable {X : Cx} {G : Env} {σ σ' : L2.St} {w w1 w' : Wo} {H H1 H' : Hp} {s s1 s' : Sta} {K : PySem.W.Frag} {mg : Str → Option Value} {B : Ba}
variable {a b c e : Expr} {es : List Expr} {f g h : Ev} {pos p2 p : Pos} {rest : List Expr} {st : Stmt} {sts sts2 : List Stmt} {gs hs : Ex} {x : Str}
variable {fp : Sta → Res Pk} {fa : Sta → Res (List D)}
/-! ### isinstance(x, T) -/
inductive Kn where
  | non | bl | int | str | lst | tup
  deriving DecidableEq
def knd : P → Kn
  | .non => .non | .bl _ => .bl | .int _ => .int | .str _ => .str | .lst _ => .lst | .tup _ => .tup
def Kn.nm : Kn → String
  | .non => "NoneType" | .bl => "bool" | .int => "int" | .str => "str" | .lst => "list" | .tup => "tuple"
abbrev tyP (x : P) : String := (knd x).nm
/-- the five built-in types that are asked for -/
inductive Ty5 where
  | int | str | bool | tuple | list
def Ty5.nm : Ty5 → String
  | .int => "int" | .str => "str" | .bool => "bool" | .tuple => "tuple" | .list => "list"
def isiK : Kn → Ty5 → Bool
  | .int, .int => true | .bl, .int => true | .bl, .bool => true | .str, .str => true | .tup, .tuple => true | .lst, .list => true
  | _, _ => false
abbrev isiB (x : P) (T : Ty5) : Bool := isiK (knd x) T
theorem kit5' (k : Kn) (T : Ty5) : kitB k.nm T.nm = some (isiK k T) := by
  cases k <;> cases T <;> decide +kernel
def isiP (T : Ty5) (p : Pk) (_ : Sta) : Option P := match p with
  | .d (.p x) => some (.bl (isiB x T))
  | .d (.kt xs) => some (.bl (isiB (.tup xs) T))
  | _ => none
theorem kit5 (x : P) (T : Ty5) : PySem.W.kitOne K (.type (tyP x)) (.type T.nm) = some (isiB x T) := kit_ty (kit5' (knd x) T)
theorem ty_of {x : P} {v : V} {J : Addr → Prop} (t : Td K false H J x v) : TyX K H v (.type (tyP x)) := by
  cases t with
  | non => exact .base .non
  | bl b => exact .base (.bl b)
  | int i => exact .base (.int i)
  | str z => exact .base (.str z)
  | lst h _ _ => exact .base (.lst h)
  | tup h _ => exact .base (.tup h)
  | tupK hq _ _ => cases hq
theorem ty_kt {a : Addr} {vs : List V} (h : ∀ H, SqT K H a vs) : TyX K H (.ref a) (.type "tuple") := by
  rcases h (fun _ => Option.none) with (z | ⟨_, z⟩) | ⟨o, its, n, k1, k2, _⟩
  · cases z
  · cases z
  · exact .kTuple k1 k2
theorem de_isi {T : Ty5} {pT : Pos} {nT : Str} (hg : Gl X "isinstance") (hm : X.mg "isinstance" = none) (hgT : Gl X nT) (hmT : X.mg nT = none) (hT : bootBuiltins nT = some (.type T.nm)) (ha : DP X G a fp)
    (hn : nT ≠ "__name__" := by decide) (hdb : (nT == ("__debug__" : Str)) = false := by decide)
    (h1 : starEach [a, .Name nT pT] X.env = (false, eval a X.env) :: starEach [.Name nT pT] X.env := by rfl) (h2 : starEach [.Name nT pT] X.env = (false, eval (.Name nT pT) X.env) :: starEach [] X.env := by rfl) (hpl : (backTo pos (starEach [.Name nT pT] X.env)).any (·.1) = false := by rfl) :
    DE X G (.Call (.Name "isinstance" p) [a, .Name nT pT] [] pos) (bnd fp (fnK (isiP T))) :=
  PEi (pe_callB call_isi hg hm (by decide +kernel) (pa_cons ha (pa_cons (pe_bltn (v := .ty T.nm) hgT hmT hT rfl hn hdb) pa_nil h2) h1) (he := h1) (hpl := hpl)) fun σ H Q ⟨w, s, W, h⟩ => ⟨w, s, W, h.bind fun q s1 v w1 H1 m1 W1 r1 h1 => by
    obtain ⟨x, e, h1⟩ := fnK_at h1
    unfold isiP at e
    split at e
    · rename_i y
      cases e
      cases (show Vd X.K H1 w1 _ v from r1) with
      | p t => exact ⟨v, .ty T.nm, _, _, _, rfl, .ty _, ty_of t, kit5 y T, Post.here W1 (.p (.bl _)) h1⟩
    · rename_i xs
      cases e
      cases (show Vd X.K H1 w1 _ v from r1) with
      | @kt a _ vs h h' => exact ⟨_, .ty T.nm, _, _, _, rfl, .ty _, ty_kt h, kit5 (.tup xs) T, Post.here W1 (.p (.bl _)) h1⟩
    · cases e⟩
/-! ### max(a, b), min(a, b) -/
def maxD (ds : List D) : Ev := match ds with
  | [.p (.int i), .p (.int j)] => cst (.p (.int (if j > i then j else i)))
  | _ => bad1
def minD (ds : List D) : Ev := match ds with
  | [.p (.int i), .p (.int j)] => cst (.p (.int (if j < i then j else i)))
  | _ => bad1
theorem two_ints {vs : List V} {i j : Int} (r : VdL K H w [.p (.int i), .p (.int j)] vs) : vs = [.int i, .int j] := by
  cases r with
  | cons r1 r2 =>
    cases r2 with
    | cons r2 r3 =>
      cases r3
      cases r1 with | p t => cases t; cases r2 with | p t => cases t; rfl
theorem de_max2 (hc : X.calm = true) (hg : Gl X "max") (hm : X.mg "max" = none) (ha : DA X G [a, b] fa) (he : starEach [a, b] X.env = (false, eval a X.env) :: starEach [b] X.env := by rfl) (hpl : (backTo pos (starEach [b] X.env)).any (·.1) = false := by rfl) :
    DE X G (.Call (.Name "max" p) [a, b] [] pos) (bnd fa maxD) :=
  PEi (pe_callB (call_max2 hc) hg hm (by decide +kernel) ha (he := he) (hpl := hpl)) fun σ H Q ⟨w, s, W, h⟩ => ⟨w, s, W, h.bind fun ds s1 vs w1 H1 m1 W1 r1 h1 => by
    unfold maxD at h1
    split at h1
    · exact ⟨_, _, two_ints (show VdL X.K H1 w1 _ vs from r1), Post.here W1 (.p (.int _)) h1⟩
    · exact h1.elim⟩
theorem de_min2 (hc : X.calm = true) (hg : Gl X "min") (hm : X.mg "min" = none) (ha : DA X G [a, b] fa) (he : starEach [a, b] X.env = (false, eval a X.env) :: starEach [b] X.env := by rfl) (hpl : (backTo pos (starEach [b] X.env)).any (·.1) = false := by rfl) :
    DE X G (.Call (.Name "min" p) [a, b] [] pos) (bnd fa minD) :=
  PEi (pe_callB (call_min2 hc) hg hm (by decide +kernel) ha (he := he) (hpl := hpl)) fun σ H Q ⟨w, s, W, h⟩ => ⟨w, s, W, h.bind fun ds s1 vs w1 H1 m1 W1 r1 h1 => by
    unfold minD at h1
    split at h1
    · exact ⟨_, _, two_ints (show VdL X.K H1 w1 _ vs from r1), Post.here W1 (.p (.int _)) h1⟩
    · exact h1.elim⟩
/-! ### sum, max, min, any, all of a list -/
def intsOf (p : Pk) (s : Sta) : Option (List Int) := (seqPk p s).bind fun ds => ds.mapM fun d => match d with
  | .p (.int i) => some i
  | _ => none
def blsOf (p : Pk) (s : Sta) : Option (List Bool) := (seqPk p s).bind fun ds => ds.mapM fun d => match d with
  | .p (.bl i) => some i
  | _ => none
theorem ints_v : ∀ {ds : List D} {vs : List V} {ns : List Int}, VdL K H w ds vs → (ds.mapM fun d => match d with | .p (.int i) => some i | _ => none) = some ns → vs = ns.map V.int
  | [], _, _, .nil, e => by simp at e; subst e; rfl
  | d :: ds, _, ns, .cons a t, e => by
    rw [List.mapM_cons] at e
    cases a with
    | p t1 =>
      cases t1 with
      | int i =>
        simp only [Option.pure_def, Option.bind_eq_bind, Option.bind_some] at e
        cases e2 : (ds.mapM fun d => match d with | .p (.int i) => some i | _ => none) with
        | none => rw [e2] at e; simp at e
        | some ns' => rw [e2] at e; simp at e; subst e; rw [ints_v t e2]; rfl
      | _ => simp at e
    | _ => simp at e
theorem bls_v : ∀ {ds : List D} {vs : List V} {ns : List Bool}, VdL K H w ds vs → (ds.mapM fun d => match d with | .p (.bl i) => some i | _ => none) = some ns → vs = ns.map V.bl
  | [], _, _, .nil, e => by simp at e; subst e; rfl
  | d :: ds, _, ns, .cons a t, e => by
    rw [List.mapM_cons] at e
    cases a with
    | p t1 =>
      cases t1 with
      | bl i =>
        simp only [Option.pure_def, Option.bind_eq_bind, Option.bind_some] at e
        cases e2 : (ds.mapM fun d => match d with | .p (.bl i) => some i | _ => none) with
        | none => rw [e2] at e; simp at e
        | some ns' => rw [e2] at e; simp at e; subst e; rw [bls_v t e2]; rfl
      | _ => simp at e
    | _ => simp at e
/-- a list, not a tuple -/
def isLst (p : Pk) (s : Sta) : Bool := match p with
  | .lin (.lst _) => true
  | .d (.p (.lst _)) => true
  | .d (.fz _) => true
  | .d (.loc n) => match s.st with
    | some S => match S[n]? with
      | some (.lst _) => true
      | _ => false
    | none => false
  | _ => false
theorem lst_at' {k : Pk} {v : V} {ds : List D} (W : Wd K mg B w σ s H) (h : RP K H w k v) (e : seqPk k s = some ds) (l : isLst k s = true) : ∃ a vs, v = .ref a ∧ SqL K H a vs ∧ VdL K H w ds vs := by
  cases k with
  | lin m =>
    obtain ⟨a, rfl, lk⟩ := h
    cases lk with
    | lst h t => cases e; exact ⟨a, _, rfl, .of h, t.vd⟩
    | dic _ _ => cases e
    | dct _ _ => cases e
  | d x =>
    have h : Vd K H w x v := h
    have e : seqOf x s = some ds := e
    cases h with
    | p t =>
      cases t with
      | lst h1 h2 t => simp [seqOf] at e; subst e; exact ⟨_, _, rfl, .of h1, t.vd⟩
      | _ => cases l
    | fz h1 t => simp [seqOf] at e; subst e; exact ⟨_, _, rfl, h1.sq, t.vd⟩
    | kt _ _ => cases l
    | @loc n a hn =>
      have so := W.sto
      unfold seqOf at e
      unfold isLst at l
      cases es : s.st with
      | none => rw [es] at e; simp at e
      | some S =>
        rw [es] at e so l
        simp only at e l
        cases em : S[n]? with
        | none => rw [em] at e; simp at e
        | some m =>
          rw [em] at e l
          cases so.2 n a _ hn em with
          | lst h1 t => simp at e; subst e; exact ⟨_, _, rfl, .of h1, t⟩
          | _ => cases l
    | dic _ _ _ => cases e
    | dct _ _ _ => cases e
def sumP (p : Pk) (s : Sta) : Option P := if isLst p s = true then (intsOf p s).map fun ns => .int ns.sum else none
def allP (p : Pk) (s : Sta) : Option P := if isLst p s = true then (blsOf p s).map fun bs => .bl (bs.all id) else none
def anyP (p : Pk) (s : Sta) : Option P := if isLst p s = true then (blsOf p s).map fun bs => .bl (bs.any id) else none
/-- the greatest, the least -/
def maxL : List Int → Option Int
  | [] => none
  | i :: is => some (is.foldl max i)
def minL : List Int → Option Int
  | [] => none
  | i :: is => some (is.foldl min i)
def maxP (p : Pk) (s : Sta) : Option P := if isLst p s = true then ((intsOf p s).bind maxL).map .int else none
def minP (p : Pk) (s : Sta) : Option P := if isLst p s = true then ((intsOf p s).bind minL).map .int else none
theorem intsAt {k : Pk} {v : V} {ns : List Int} (W : Wd K mg B w σ s H) (h : RP K H w k v) (l : isLst k s = true) (e : intsOf k s = some ns) : ∃ a, v = .ref a ∧ SqL K H a (ns.map V.int) := by
  obtain ⟨ds, e1, e2⟩ := Option.bind_eq_some_iff.mp e
  obtain ⟨a, vs, rfl, hq, tl⟩ := lst_at' W h e1 l
  exact ⟨a, rfl, by rw [← ints_v tl e2]; exact hq⟩
theorem blsAt {k : Pk} {v : V} {ns : List Bool} (W : Wd K mg B w σ s H) (h : RP K H w k v) (l : isLst k s = true) (e : blsOf k s = some ns) : ∃ a, v = .ref a ∧ SqL K H a (ns.map V.bl) := by
  obtain ⟨ds, e1, e2⟩ := Option.bind_eq_some_iff.mp e
  obtain ⟨a, vs, rfl, hq, tl⟩ := lst_at' W h e1 l
  exact ⟨a, rfl, by rw [← bls_v tl e2]; exact hq⟩
theorem u_sum : U1P X G (rSum X.K) (fnK sumP) := by
  intro σ w s H q v Q W r h
  obtain ⟨x, e, h⟩ := fnK_at h
  unfold sumP at e
  split at e
  · rename_i l
    obtain ⟨ns, en, rfl⟩ := Option.map_eq_some_iff.mp e
    obtain ⟨a, rfl, hq⟩ := intsAt W r l en
    exact ⟨a, ns, rfl, hq, Post.here W (.p (.int _)) h⟩
  · cases e
theorem u_all : U1P X G (rAll X.K) (fnK allP) := by
  intro σ w s H q v Q W r h
  obtain ⟨x, e, h⟩ := fnK_at h
  unfold allP at e
  split at e
  · rename_i l
    obtain ⟨ns, en, rfl⟩ := Option.map_eq_some_iff.mp e
    obtain ⟨a, rfl, hq⟩ := blsAt W r l en
    exact ⟨a, ns, rfl, hq, Post.here W (.p (.bl _)) h⟩
  · cases e
theorem u_any : U1P X G (rAny X.K) (fnK anyP) := by
  intro σ w s H q v Q W r h
  obtain ⟨x, e, h⟩ := fnK_at h
  unfold anyP at e
  split at e
  · rename_i l
    obtain ⟨ns, en, rfl⟩ := Option.map_eq_some_iff.mp e
    obtain ⟨a, rfl, hq⟩ := blsAt W r l en
    exact ⟨a, ns, rfl, hq, Post.here W (.p (.bl _)) h⟩
  · cases e
theorem foldl_max : ∀ (is : List Int) (i : Int), (is.foldl max i = i ∨ is.foldl max i ∈ is) ∧ i ≤ is.foldl max i ∧ ∀ y ∈ is, y ≤ is.foldl max i
  | [], i => ⟨.inl rfl, Int.le_refl _, fun _ h => by cases h⟩
  | j :: is, i => by
    obtain ⟨h1, h2, h3⟩ := foldl_max is (max i j)
    rw [List.foldl_cons]
    refine ⟨?_, Int.le_trans (Int.le_max_left _ _) h2, fun y hy => ?_⟩
    · rcases h1 with h1 | h1
      · rw [h1]
        rcases Int.le_total i j with z | z
        · right; rw [Int.max_eq_right z]; simp
        · left; exact Int.max_eq_left z
      · right; simp [h1]
    · rcases List.mem_cons.mp hy with rfl | hy
      · exact Int.le_trans (Int.le_max_right _ _) h2
      · exact h3 y hy
theorem foldl_min : ∀ (is : List Int) (i : Int), (is.foldl min i = i ∨ is.foldl min i ∈ is) ∧ is.foldl min i ≤ i ∧ ∀ y ∈ is, is.foldl min i ≤ y
  | [], i => ⟨.inl rfl, Int.le_refl _, fun _ h => by cases h⟩
  | j :: is, i => by
    obtain ⟨h1, h2, h3⟩ := foldl_min is (min i j)
    rw [List.foldl_cons]
    refine ⟨?_, Int.le_trans h2 (Int.min_le_left _ _), fun y hy => ?_⟩
    · rcases h1 with h1 | h1
      · rw [h1]
        rcases Int.le_total i j with z | z
        · left; exact Int.min_eq_left z
        · right; rw [Int.min_eq_right z]; simp
      · right; simp [h1]
    · rcases List.mem_cons.mp hy with rfl | hy
      · exact Int.le_trans h2 (Int.min_le_right _ _)
      · exact h3 y hy
theorem u_max : U1P X G (rMax X.K) (fnK maxP) := by
  intro σ w s H q v Q W r h
  obtain ⟨x, e, h⟩ := fnK_at h
  unfold maxP at e
  split at e
  · rename_i l
    obtain ⟨m, em, rfl⟩ := Option.map_eq_some_iff.mp e
    obtain ⟨ns, en, em⟩ := Option.bind_eq_some_iff.mp em
    obtain ⟨a, rfl, hq⟩ := intsAt W r l en
    cases ns with
    | nil => cases em
    | cons i is =>
      cases em
      refine ⟨a, _, rfl, hq, by simp, fun m hm hy => ?_⟩
      obtain ⟨g1, g2, g3⟩ := foldl_max is i
      have : m = is.foldl max i := by
        apply Int.le_antisymm
        · rcases List.mem_cons.mp hm with rfl | hm
          · exact g2
          · exact g3 m hm
        · rcases g1 with g1 | g1
          · rw [g1]; exact hy _ (by simp)
          · exact hy _ (by simp [g1])
      rw [this]
      exact Post.here W (.p (.int _)) h
  · cases e
theorem u_min : U1P X G (rMin X.K) (fnK minP) := by
  intro σ w s H q v Q W r h
  obtain ⟨x, e, h⟩ := fnK_at h
  unfold minP at e
  split at e
  · rename_i l
    obtain ⟨m, em, rfl⟩ := Option.map_eq_some_iff.mp e
    obtain ⟨ns, en, em⟩ := Option.bind_eq_some_iff.mp em
    obtain ⟨a, rfl, hq⟩ := intsAt W r l en
    cases ns with
    | nil => cases em
    | cons i is =>
      cases em
      refine ⟨a, _, rfl, hq, by simp, fun m hm hy => ?_⟩
      obtain ⟨g1, g2, g3⟩ := foldl_min is i
      have : m = is.foldl min i := by
        apply Int.le_antisymm
        · rcases g1 with g1 | g1
          · rw [g1]; exact hy _ (by simp)
          · exact hy _ (by simp [g1])
        · rcases List.mem_cons.mp hm with rfl | hm
          · exact g2
          · exact g3 m hm
      rw [this]
      exact Post.here W (.p (.int _)) h
  · cases e
theorem de_sum (hc : X.calm = true) (hg : Gl X "sum") (hm : X.mg "sum" = none) (ha : DP X G a fp) (h1 : starEach [a] X.env = (false, eval a X.env) :: starEach [] X.env := by rfl) : DE X G (.Call (.Name "sum" p) [a] [] pos) (bnd fp (fnK sumP)) := de_b1 (cr_sum hc) u_sum hg hm (by decide +kernel) ha (h1 := h1)
theorem de_all (hc : X.calm = true) (hg : Gl X "all") (hm : X.mg "all" = none) (ha : DP X G a fp) (h1 : starEach [a] X.env = (false, eval a X.env) :: starEach [] X.env := by rfl) : DE X G (.Call (.Name "all" p) [a] [] pos) (bnd fp (fnK allP)) := de_b1 (cr_all hc) u_all hg hm (by decide +kernel) ha (h1 := h1)
theorem de_any (hc : X.calm = true) (hg : Gl X "any") (hm : X.mg "any" = none) (ha : DP X G a fp) (h1 : starEach [a] X.env = (false, eval a X.env) :: starEach [] X.env := by rfl) : DE X G (.Call (.Name "any" p) [a] [] pos) (bnd fp (fnK anyP)) := de_b1 (cr_any hc) u_any hg hm (by decide +kernel) ha (h1 := h1)
theorem de_max (hc : X.calm = true) (hg : Gl X "max") (hm : X.mg "max" = none) (ha : DP X G a fp) (h1 : starEach [a] X.env = (false, eval a X.env) :: starEach [] X.env := by rfl) : DE X G (.Call (.Name "max" p) [a] [] pos) (bnd fp (fnK maxP)) := de_b1 (cr_max hc) u_max hg hm (by decide +kernel) ha (h1 := h1)
theorem de_min (hc : X.calm = true) (hg : Gl X "min") (hm : X.mg "min" = none) (ha : DP X G a fp) (h1 : starEach [a] X.env = (false, eval a X.env) :: starEach [] X.env := by rfl) : DE X G (.Call (.Name "min" p) [a] [] pos) (bnd fp (fnK minP)) := de_b1 (cr_min hc) u_min hg hm (by decide +kernel) ha (h1 := h1)
end
end Dz
namespace Dz
open PySem PySem.Spec PyProof.Rows L2
section
variable {X : Cx} {G : Env} {σ σ' : L2.St} {w w1 w' : Wo} {H H1 H' : Hp} {s s1 s' : Sta} {K : PySem.W.Frag} {mg : Str → Option Value} {B : Ba}
variable {a b c e : Expr} {es : List Expr} {f g h : Ev} {pos p2 p apos cpos : Pos} {rest : List Expr} {st : Stmt} {sts sts2 : List Stmt} {gs hs : Ex} {x : Str}
variable {fp : Sta → Res Pk} {fa : Sta → Res (List D)}
/-! ### a slot that is looked at: truth, subscripts, in -/
def truPk (k : Pk) (s : Sta) : Option Bool := match k with
  | .d d => truB d s
  | .lin (.lst xs) => some (!xs.isEmpty)
  | .lin (.dic kvs) => some (!kvs.isEmpty)
  | _ => none
theorem truPk_of {k : Pk} {v : V} {c : Bool} (W : Wd X.K X.mg G.B w σ s H) (h : RP X.K H w k v) (e : truPk k s = some c) : TruV X.K v H c := by
  cases k with
  | d d => exact tru_of W h e
  | lin m =>
    obtain ⟨a, rfl, l⟩ := h
    cases l with
    | lst h t => cases e; exact .inl ⟨_, .of h, by rw [← t.vd.emp (w := w)]; simp⟩
    | dic h t => cases e; exact .inr (.inr ⟨_, h, by rw [← t.vd.emp (w := w)]; simp⟩)
    | dct _ _ => cases e
def truPR (k : Pk) : Sta → Res Bool := fun s => match truPk k s with
  | some b => .ok b s
  | none => .bad
theorem dt_truP (ha : DP X G a fp) (he : ∀ whole, isTrue a X.env whole = (do let v ← whole; standAt a.pos; holding [v] (truthy v)) := by intro _; rfl) : DT X G a (bnd fp truPR) :=
  PTi (pt_truth ha he) fun σ H Q ⟨w, s, W, h⟩ => ⟨w, s, W, h.bind fun d s1 v w1 H1 m1 W1 r1 h1 => by
    unfold truPR at h1
    split at h1
    · rename_i k e
      exact ⟨k, truPk_of W1 r1 e, Post.here (R := RB) W1 rfl h1⟩
    · exact h1.elim⟩
/-- xs[e], xs a name: looked at behind e -/
def ixPk (k : Pk) (e : D) (s : Sta) : Option D := match k with
  | .d d => ixO d e s
  | .lin (.lst xs) => match e with
    | .p (.int i) => (atI xs i).map .p
    | _ => none
  | .lin (.dic kvs) => match e with
    | .p y => (keyP y).bind fun k => (getK kvs k).map .p
    | _ => none
  | .lin (.dct kvs) => match e with
    | .p y => (keysP y).bind fun k => (getK kvs k).map .p
    | _ => none
def ixV (i : Nat) (g : Ev) : Ev := bnd (pk i) fun _ => bnd g fun e => bnd (pk i) fun k s => match ixPk k e s with
  | some x => .ok x s
  | none => .bad
theorem TdL.atI {J : Addr → Prop} {xs : List P} {vs : List V} {i : Int} {d : P} (t : TdL K false H J xs vs) (e : atI xs i = some d) : ∃ v, L2.atI vs i = some v ∧ Td K false H J d v := by
  unfold L2.atI at e ⊢
  rw [t.len] at e
  cases ej : ixN vs.length i with
  | none => rw [ej] at e; cases e
  | some j =>
    rw [ej] at e
    exact t.at e
theorem TdK.get {κ : Type} [DecidableEq κ] {J : Addr → Prop} {xs : List (κ × P)} {vs : List (κ × V)} (t : TdK K false H J xs vs) {k : κ} {d : P} (e : getK xs k = some d) : ∃ v, valV vs k = some v ∧ Td K false H J d v := by
  induction t with
  | nil => cases e
  | @cons k' x xs v vs h1 _ ih =>
    by_cases ek : k' = k
    · have : getK ((k', x) :: xs) k = some x := by simp [getK, List.find?_cons, ek]
      rw [this] at e
      cases e
      exact ⟨v, valV_pos ek, h1⟩
    · have : getK ((k', x) :: xs) k = getK xs k := by simp [getK, List.find?_cons, ek]
      rw [this] at e
      obtain ⟨u, h2, h3⟩ := ih e
      exact ⟨u, by rw [valV_neg (p := (k', v)) ek]; exact h2, h3⟩
theorem ixPk_at {k : Pk} {d x : D} {v u : V} {Q : VK} (W : Wd X.K X.mg G.B w σ s H) (hk : RP X.K H w k v) (he : Vd X.K H w d u) (e : ixPk k d s = some x) (h : Post X G (RD X) σ w H (.ok x s) Q) : rIxD X.K v u H Q := by
  cases k with
  | d d0 =>
    refine u_ix σ w s H d0 d v u Q W hk he ?_
    unfold ixD
    rw [show ixO d0 d s = some x from e]
    exact h
  | lin m =>
    obtain ⟨a, rfl, l⟩ := hk
    cases l with
    | lst h1 t =>
      unfold ixPk at e
      cases he with
      | p te =>
        cases te with
        | int i =>
          obtain ⟨y, ey, rfl⟩ := Option.map_eq_some_iff.mp e
          obtain ⟨z, hz, tz⟩ := t.atI ey
          exact .inl (.inl ⟨a, _, i, z, rfl, rfl, .of h1, hz, Post.here W (.p tz) h⟩)
        | _ => cases e
      | _ => cases e
    | dic h1 t =>
      unfold ixPk at e
      cases he with
      | p te =>
        obtain ⟨k, kk, e2⟩ := Option.bind_eq_some_iff.mp e
        obtain ⟨y, ey, rfl⟩ := Option.map_eq_some_iff.mp e2
        obtain ⟨z, hz, tz⟩ := t.get ey
        cases key_v te kk
        exact .inr ⟨a, z, rfl, by rw [← hz]; exact .k h1, Post.here W (.p tz) h⟩
      | _ => cases e
    | dct h1 t =>
      unfold ixPk at e
      cases he with
      | p te =>
        obtain ⟨k, kk, e2⟩ := Option.bind_eq_some_iff.mp e
        obtain ⟨y, ey, rfl⟩ := Option.map_eq_some_iff.mp e2
        obtain ⟨z, hz, tz⟩ := t.get ey
        obtain ⟨c, rfl, hc⟩ := keysP_at te kk
        exact .inr ⟨a, z, rfl, by rw [← hz]; exact .t h1 hc, Post.here W (.p tz) h⟩
      | _ => cases e
/-- what a slot shows -/
theorem pk_at {i : Nat} {k : Pk} {s2 : Sta} (W : Wd K mg B w σ s H) (e : pk i s = .ok k s2) : s2 = s ∧ ∃ v, σ[i]? = some (some v) ∧ RP K H w k v := by
  unfold pk at e
  split at e
  · rename_i d e1
    cases e
    exact ⟨rfl, W.sl i _ e1⟩
  · rename_i m e1
    cases e
    obtain ⟨a, e2, l, _⟩ := W.sl i _ e1
    exact ⟨rfl, _, e2, a, rfl, l⟩
  · cases e
theorem pk_ex {i : Nat} {c : Str} {fs : List P} (e : pk i s = .ex c fs) : False := by
  unfold pk at e
  split at e <;> cases e
/-- from f, then g -/
theorem PostQ {α β γ δ : Type} {R : Hp → Wo → α → γ → Prop} {R' : Hp → Wo → β → δ → Prop} {f : Sta → Res α} {g : α → Sta → Res β} {Q : δ → Hp → Prop} {Q1 : γ → Hp → Prop} (h : Post X G R' σ w H (Dz.bnd f g s) Q)
    (k : ∀ a s1 b w1 H1, Mono w H w1 H1 → Wd X.K X.mg G.B w1 σ s1 H1 → R H1 w1 a b → Post X G R' σ w1 H1 (g a s1) Q → Q1 b H1) : Post X G R σ w H (f s) Q1 := Post.bind h k
theorem de_ixV {i : Nat} {x : Str} {px : Pos} (hu : X.A.units + 64 < cLine) (hb : DE X G b g) (hs : PlainIx b := by exact fun _ _ => rfl) (hN : X.N[i]? = some x := by rfl) (hv : Vis X.env.scope x := by first | exact Or.inl rfl | exact Or.inr (Or.inl rfl) | exact Or.inr (Or.inr rfl))
    (hd : (x == ("__debug__" : Str)) = false := by decide) (hcd : (x == ("__classdict__" : Str)) = false := by decide) : DE X G (.Subscript (.Name x px) b pos) (ixV i g) :=
  PEi (pe_ix (ix_seq.or (ix_dict hu)) (pe_var (i := i) hN hv hd hcd) hb hs) fun σ H Q ⟨w, s, W, h⟩ => by
    unfold ixV at h
    unfold bnd at h
    cases ep0 : pk i s with
    | bad => rw [ep0] at h; exact h.elim
    | ex c fs => exact (pk_ex ep0).elim
    | ok k0 s0 =>
      obtain ⟨rfl, v, ev, _⟩ := pk_at W ep0
      rw [ep0] at h
      refine ⟨v, ev, w, _, W, PostQ h fun d s1 u w1 H1 m1 W1 r1 h => ?_⟩
      unfold bnd at h
      cases ep : pk i s1 with
      | bad => rw [ep] at h; exact h.elim
      | ex c fs => exact (pk_ex ep).elim
      | ok k s2 =>
        obtain ⟨rfl, v', ev', rk⟩ := pk_at W1 ep
        rw [ev] at ev'
        cases ev'
        rw [ep] at h
        simp only at h
        split at h
        · rename_i x ex
          exact ixPk_at W1 rk r1 ex h
        · exact h.elim
/-- x in xs, xs a name -/
def inPk (d : D) (k : Pk) (s : Sta) : Option Bool := match k with
  | .d e => inB d e s
  | .lin (.lst xs) => match d with
    | .p x => if min (deep x) (deepL xs) ≤ 60 then some (xs.any fun z => eqP z x) else none
    | _ => none
  | .lin (.dic kvs) => match d with
    | .p x => (keyP x).map fun k => (getK kvs k).isSome
    | _ => none
  | .lin (.dct kvs) => match d with
    | .p x => (keysP x).map fun k => (getK kvs k).isSome
    | _ => none
def inPD (neg : Bool) (d : D) (k : Pk) : Ev := fun s => match inPk d k s with
  | some b => .ok (.p (.bl (if neg then !b else b))) s
  | none => .bad
theorem TdK.some {κ : Type} [DecidableEq κ] {J : Addr → Prop} {xs : List (κ × P)} {vs : List (κ × V)} (t : TdK K false H J xs vs) (k : κ) : (valV vs k).isSome = (getK xs k).isSome := by
  have := getK_some (t.vd (w := ⟨[], J⟩)) k
  rw [this]
  unfold getK
  rw [List.find?_map]
  simp [Function.comp_def]
theorem inPk_at {neg cb : Bool} {d : D} {k : Pk} {v u : V} {Q : VK} (W : Wd X.K X.mg G.B w σ s H) (hd : Vd X.K H w d v) (hk : RP X.K H w k u) (e : inPk d k s = some cb) (h : Post X G (RD X) σ w H (.ok (.p (.bl (if neg then !cb else cb))) s) Q) : rInD X.K neg v u H Q := by
  cases k with
  | d d0 =>
    refine u_in neg σ w s H d d0 v u Q W hd hk ?_
    unfold inD
    rw [show inB d d0 s = some cb from e]
    exact h
  | lin m =>
    obtain ⟨a, rfl, l⟩ := hk
    have fin : ∀ {c : Bool}, c = (if neg then !cb else cb) → Q (.bl c) H := fun {c} z => by rw [z]; exact Post.here W (.p (.bl _)) h
    cases hd with
    | p td =>
      cases l with
      | lst h1 t =>
        unfold inPk at e
        simp only at e
        split at e
        · rename_i hz
          cases e
          exact .inr (.inl ⟨w.I, _, _, a, _, rfl, .inl (.of h1), t, td, hz, fin rfl⟩)
        · cases e
      | dic h1 t =>
        obtain ⟨k, kk, rfl⟩ := Option.map_eq_some_iff.mp e
        cases key_v td kk
        exact .inr (.inr ⟨a, _, rfl, .k h1, fin (by rw [t.some])⟩)
      | dct h1 t =>
        obtain ⟨k, kk, rfl⟩ := Option.map_eq_some_iff.mp e
        obtain ⟨c, rfl, hc⟩ := keysP_at td kk
        exact .inr (.inr ⟨a, _, rfl, .t h1 hc, fin (by rw [t.some])⟩)
    | _ => cases l <;> cases e
def inE (neg : Bool) (f : Ev) (fp : Sta → Res Pk) : Ev := bnd f fun d => bnd fp fun k => inPD neg d k
theorem in_post {neg : Bool} {Q : VK} {op : CmpOp} (W : Wd X.K X.mg G.B w σ s H) (h : Post X G (RD X) σ w H (inE neg f fp s) Q) : tOp (rInD X.K neg) (tE X G f) (tP X G fp) σ H Q :=
  ⟨w, s, W, PostQ h fun d s1 v w1 H1 m1 W1 r1 h => ⟨w1, s1, W1, PostQ h fun k s2 u w2 H2 m2 W2 r2 h => by
    unfold inPD at h
    split at h
    · rename_i cb e
      exact inPk_at W2 (Vd.mono m2 r1) r2 e h
    · exact h.elim⟩⟩
theorem de_inP (hu : X.A.units + 64 < cLine) (ha : DE X G a f) (hb : DP X G b fp) (hm : behindInMarks .In b = false := by rfl) : DE X G (.Compare a [.In] [b] pos) (inE false f fp) :=
  PEi (pe_cmpR ((op_inS false).or ((op_inP hu).or (op_inK hu))) ha hb hm) fun σ H Q ⟨w, s, W, h⟩ => in_post (op := .In) W h
theorem de_notInP (hu : X.A.units + 64 < cLine) (ha : DE X G a f) (hb : DP X G b fp) (hm : behindInMarks .NotIn b = false := by rfl) : DE X G (.Compare a [.NotIn] [b] pos) (inE true f fp) :=
  PEi (pe_cmpR ((op_inS true).or ((op_notInP hu).or (op_notInK hu))) ha hb hm) fun σ H Q ⟨w, s, W, h⟩ => in_post (op := .NotIn) W h
theorem dt_inP (hu : X.A.units + 64 < cLine) (ha : DE X G a f) (hb : DP X G b fp) (hm : behindInMarks .In b = false := by rfl) : DT X G (.Compare a [.In] [b] pos) (bnd (inE false f fp) isBl) :=
  PTi (pt_cmpR ((op_inS false).or ((op_inP hu).or (op_inK hu))) ha hb hm) fun σ H Q ⟨w, s, W, h⟩ => in_post (op := .In) W (h.bind (R := RD X) fun d s3 x w3 H3 m3 W3 r3 h3 => blOf W3 r3 h3)
theorem dt_notInP (hu : X.A.units + 64 < cLine) (ha : DE X G a f) (hb : DP X G b fp) (hm : behindInMarks .NotIn b = false := by rfl) : DT X G (.Compare a [.NotIn] [b] pos) (bnd (inE true f fp) isBl) :=
  PTi (pt_cmpR ((op_inS true).or ((op_notInP hu).or (op_notInK hu))) ha hb hm) fun σ H Q ⟨w, s, W, h⟩ => in_post (op := .NotIn) W (h.bind (R := RD X) fun d s3 x w3 H3 m3 W3 r3 h3 => blOf W3 r3 h3)
end
end Dz
namespace Dz
open PySem PySem.Spec PyProof.Rows L2
section
variable {X : Cx} {G : Env} {σ σ' : L2.St} {w w1 w' : Wo} {H H1 H' : Hp} {s s1 s' : Sta} {K : PySem.W.Frag} {mg : Str → Option Value} {B : Ba}
variable {a b c e o : Expr} {es : List Expr} {f g h : Ev} {pos p2 p apos cpos : Pos} {rest : List Expr} {st : Stmt} {sts sts2 : List Stmt} {gs hs : Ex} {x : Str}
variable {fp : Sta → Res Pk} {fa : Sta → Res (List D)}
/-! ### changes -/
theorem Mono.wr {a : Addr} {u : HO} (n : ¬ w.I a) (nt : ∀ xs, H a ≠ some (.tup xs) := by intro _ z; simp_all) : Mono w H w (upd H a u) := ⟨⟨fun b o hb e => ⟨hb, by rw [upd_ne (fun z => n (by rw [← z]; exact hb))]; exact e⟩, fun b xs e => by rw [upd_ne (fun z => nt xs (by rw [← z]; exact e))]; exact e⟩, fun _ _ e => e⟩
/-- what a slot alone knows is changed -/
theorem Wd.wr {i : Nat} {m m' : Lin} {a : Addr} {u : HO} (W : Wd K mg B w σ s H) (e : s.sl[i]? = some (.lin m)) (ea : σ[i]? = some (some (.ref a))) (hm : LOk K (upd H a u) w.I a m') : Wd K mg B w σ ⟨s.sl.set i (.lin m'), s.st⟩ (upd H a u) := by
  obtain ⟨a', e1, l, n1, n2, n3⟩ := W.sl i _ e
  rw [ea] at e1
  cases e1
  have il : i < s.sl.length := (List.getElem?_eq_some_iff.mp e).1
  have nt : ∀ xs, H a ≠ some (.tup xs) := fun xs hb => by
    cases l with
    | lst h _ => rw [h] at hb; cases hb
    | dic h _ => rw [h] at hb; cases hb
    | dct h _ => rw [h] at hb; cases hb
  have mo : Mono w H w (upd H a u) := .wr n2 nt
  have ho : ∀ c, H a ≠ some (.own c) := fun c hb => by
    cases l with
    | lst h _ => rw [h] at hb; cases hb
    | dic h _ => rw [h] at hb; cases hb
    | dct h _ => rw [h] at hb; cases hb
  have th : ∀ b, upd H a u b = none → H b = none := fun b hb => by
    by_cases eb : b = a
    · subst eb; rw [upd_same] at hb; cases hb
    · rw [upd_ne eb] at hb; exact hb
  refine ⟨⟨fun b v hb nb => ?_, W.ext.pre, W.ext.newr, W.ext.imm, W.ext.newi, fun b hb => W.ext.there b (th b hb), fun b xs e => by have e2 := W.ext.tup b xs e; rw [upd_ne (fun z => nt xs (by rw [← z]; exact e2))]; exact e2⟩, ⟨W.snd.nd, fun b hb z => W.snd.rt b hb (th b z), W.snd.ri, fun b hb z => W.snd.it b hb (th b z)⟩, W.sb, ?_, fun j x ej => ?_, ?_, fun p q pq hp hq => ?_⟩
  · rw [upd_ne (fun z => by subst z; rw [n3] at hb; cases hb)]
    exact W.ext.keep b v hb nb
  · have so := W.sto
    show StOk K mg (upd H a u) w s.st
    cases es : s.st with
    | none => trivial
    | some S =>
      rw [es] at so
      refine ⟨so.1, fun n b m e1 e2 => (so.2 n b m e1 e2).mono (fun o eo => ?_) (fun d ed => ?_) mo⟩
      · rw [upd_ne (fun z => by subst z; exact n1 (List.mem_of_getElem? e1))]; exact eo
      · rw [upd_ne (fun z => by subst z; exact ho _ ed)]; exact ed
  · have ej : (s.sl.set i (.lin m'))[j]? = some x := ej
    rw [List.getElem?_set] at ej
    by_cases eq : i = j
    · subst eq
      rw [if_pos rfl, if_pos il] at ej
      cases ej
      exact ⟨a, ea, hm, n1, n2, n3⟩
    · rw [if_neg eq] at ej
      have h := W.sl j x ej
      cases x with
      | un => trivial
      | v d => obtain ⟨v, e1, h1⟩ := h; exact ⟨v, e1, h1.mono mo⟩
      | lin l' =>
        obtain ⟨b, e1, h1, h2, h3, h4⟩ := h
        refine ⟨b, e1, h1.mono (fun o eo => ?_) mo.imm, h2, h3, h4⟩
        rw [upd_ne (fun z => by subst z; exact W.two i j eq (by rw [e]; rfl) (by rw [ej]; rfl) (ea.trans e1.symm))]
        exact eo
  · show (s.sl.set i _).length ≤ _; rw [List.length_set]; exact W.len
  · have other : ∀ p, isLin (s.sl.set i (.lin m'))[p]? = true → isLin s.sl[p]? = true := fun p hp => by
      rw [List.getElem?_set] at hp
      by_cases eq : i = p
      · subst eq; rw [e]; rfl
      · rw [if_neg eq] at hp; exact hp
    exact W.two p q pq (other p hp) (other q hq)
theorem nodup_at {α : Type} : ∀ {l : List α} {i j : Nat} {a : α}, l.Nodup → l[i]? = some a → l[j]? = some a → i = j
  | [], _, _, _, _, h, _ => by simp at h
  | x :: l, 0, 0, _, _, _, _ => rfl
  | x :: l, 0, j + 1, a, nd, h, h' => by
    simp at h h'
    subst h
    exact absurd (List.mem_of_getElem? h') (List.nodup_cons.mp nd).1
  | x :: l, i + 1, 0, a, nd, h, h' => by
    simp at h h'
    subst h'
    exact absurd (List.mem_of_getElem? h) (List.nodup_cons.mp nd).1
  | x :: l, i + 1, j + 1, a, nd, h, h' => by
    simp at h h'
    rw [nodup_at (List.nodup_cons.mp nd).2 h h']
/-- an object of the store is changed -/
theorem Wd.wrS {n : Nat} {a : Addr} {S : List MO} {m m' : MO} {u : HO} (W : Wd K mg B w σ s H) (es : s.st = some S) (en : w.ρ[n]? = some a) (em : S[n]? = some m) (hm : MOk K mg (upd H a u) w a m') (hn : ∀ c, H a ≠ some (.own c)) (nt : ∀ xs, H a ≠ some (.tup xs) := by intro _ z; simp_all) :
    Wd K mg B w σ ⟨s.sl, some (S.set n m')⟩ (upd H a u) ∧ Mono w H w (upd H a u) := by
  have am : a ∈ w.ρ := List.mem_of_getElem? en
  have n2 : ¬ w.I a := W.snd.ri a am
  have mo : Mono w H w (upd H a u) := .wr n2 nt
  have th : ∀ b, upd H a u b = none → H b = none := fun b hb => by
    by_cases eb : b = a
    · subst eb; rw [upd_same] at hb; cases hb
    · rw [upd_ne eb] at hb; exact hb
  have so := W.sto
  rw [es] at so
  refine ⟨⟨⟨fun b v hb nb => ?_, W.ext.pre, W.ext.newr, W.ext.imm, W.ext.newi, fun b hb => W.ext.there b (th b hb), fun b xs e => by have e2 := W.ext.tup b xs e; rw [upd_ne (fun z => nt xs (by rw [← z]; exact e2))]; exact e2⟩, ⟨W.snd.nd, fun b hb z => W.snd.rt b hb (th b z), W.snd.ri, fun b hb z => W.snd.it b hb (th b z)⟩, W.sb, ?_, fun j x ej => ?_, W.len, W.two⟩, mo⟩
  · rw [upd_ne (fun z => by
      subst z
      rcases W.ext.newr b am with h | h
      · exact nb h
      · rw [h] at hb; cases hb)]
    exact W.ext.keep b v hb nb
  · refine ⟨by rw [List.length_set]; exact so.1, fun k b mk e1 e2 => ?_⟩
    by_cases ek : n = k
    · subst ek
      rw [en] at e1
      cases e1
      rw [List.getElem?_set, if_pos rfl] at e2
      split at e2
      · cases e2; exact hm
      · cases e2
    · rw [List.getElem?_set, if_neg ek] at e2
      refine (so.2 k b mk e1 e2).mono (fun o eo => ?_) (fun d ed => ?_) mo
      · rw [upd_ne (fun z => ?_)]
        · exact eo
        · subst z
          have l1 := (List.getElem?_eq_some_iff.mp en)
          have l2 := (List.getElem?_eq_some_iff.mp e1)
          exact ek (nodup_at W.snd.nd en e1)
      · rw [upd_ne (fun z => by subst z; exact hn _ ed)]; exact ed
  · have h := W.sl j x ej
    cases x with
    | un => trivial
    | v d => obtain ⟨v, e1, h1⟩ := h; exact ⟨v, e1, h1.mono mo⟩
    | lin l' =>
      obtain ⟨b, e1, h1, h2, h3, h4⟩ := h
      refine ⟨b, e1, h1.mono (fun o eo => ?_) mo.imm, h2, h3, h4⟩
      rw [upd_ne (fun z => by subst z; exact h2 am)]
      exact eo
theorem MOk.noOwn {a : Addr} {m : MO} (h : MOk K mg H w a m) : ∀ c, H a ≠ some (.own c) := fun c z => by
  cases h with
  | lst h _ => rw [h] at z; cases z
  | tup h _ => rw [h] at z; cases z
  | dic h _ => rw [h] at z; cases z
  | dct h _ => rw [h] at z; cases z
  | ins _ h _ _ => rw [h] at z; cases z
/-- xs.append(d) by the place xs: a slot of its own, or the store -/
def appAt (k : Pk) (i : Nat) (d : D) : Sta → Option Sta := fun s => match k with
  | .lin (.lst xs) => match d with
    | .p x => if xs.length < sizeLine then some ⟨s.sl.set i (.lin (.lst (xs ++ [x]))), s.st⟩ else none
    | _ => none
  | .d (.loc n) => match s.st with
    | some S => match S[n]? with
      | some (.lst ds) => if ds.length < sizeLine then some ⟨s.sl, some (S.set n (.lst (ds ++ [d])))⟩ else none
      | _ => none
    | none => none
  | _ => none
theorem TdL.snoc {J : Addr → Prop} {xs : List P} {vs : List V} {x : P} {v : V} (t : TdL K false H J xs vs) (h : Td K false H J x v) : TdL K false H J (xs ++ [x]) (vs ++ [v]) := t.app (.cons h .nil)
theorem VdL.snoc {xs : List D} {vs : List V} {x : D} {v : V} (t : VdL K H w xs vs) (h : Vd K H w x v) : VdL K H w (xs ++ [x]) (vs ++ [v]) := t.app (.cons h .nil)
/-- an append at an address -/
theorem app_st {n : Nat} {d : D} {v u : V} {Q : VK} {s2 : Sta} {i : Nat} (W : Wd X.K X.mg G.B w σ s H) (hv : Vd X.K H w (.loc n) v) (hd : Vd X.K H w d u) (e : appAt (.d (.loc n)) i d s = some s2) (h : ∀ H', Mono w H w H' → Wd X.K X.mg G.B w σ s2 H' → Q .non H') : rAppend v [u] H Q := by
  unfold appAt at e
  simp only at e
  cases hv with
  | @loc _ a hn =>
    have so := W.sto
    split at e
    · rename_i S es
      split at e
      · rename_i ds em
        split at e
        · rename_i hz
          cases e
          rw [es] at so
          have mk := so.2 n a _ hn em
          have hno := mk.noOwn
          cases mk with
          | @lst _ vs h1 t =>
            have n2 : ¬ w.I a := W.snd.ri a (List.mem_of_getElem? hn)
            obtain ⟨W', mo⟩ := W.wrS (u := .lst (vs ++ [u])) (m' := .lst (ds ++ [d])) es hn em (.lst upd_same ((t.mono (.wr n2)).snoc (hd.mono (.wr n2)))) hno
            exact ⟨a, vs, u, rfl, rfl, h1, by rw [← t.len]; exact hz, h _ mo W'⟩
        · cases e
      · cases e
    · cases e
theorem app_sl {i : Nat} {m : Lin} {d : D} {v u : V} {Q : VK} {s2 : Sta} (W : Wd X.K X.mg G.B w σ s H) (em : s.sl[i]? = some (.lin m)) (ev : σ[i]? = some (some v)) (hd : Vd X.K H w d u) (e : appAt (.lin m) i d s = some s2) (h : ∀ H', Mono w H w H' → Wd X.K X.mg G.B w σ s2 H' → Q .non H') : rAppend v [u] H Q := by
  obtain ⟨a, e1, l, n1, n2, n3⟩ := W.sl i _ em
  rw [ev] at e1
  cases e1
  unfold appAt at e
  cases l with
  | @lst _ vs h1 t =>
    simp only at e
    split at e
    · rename_i x
      split at e
      · rename_i hz
        cases e
        cases hd with
        | p td =>
          have mo : Mono w H w (upd H a (.lst (vs ++ [u]))) := .wr n2
          exact ⟨a, _, u, rfl, rfl, h1, by rw [← t.len]; exact hz, h _ mo (W.wr em ev (.lst upd_same ((t.mono mo.imm).snoc (td.mono mo.imm))))⟩
      · cases e
    · cases e
  | dic _ _ => cases e
  | dct _ _ => cases e
/-- is it a list -/
theorem tyL_at {k : Pk} {v : V} (W : Wd X.K X.mg G.B w σ s H) (h : RP X.K H w k v) (l : isLst k s = true) (ds : List D) (e : seqPk k s = some ds) : tyV X.K "list" v H := by
  obtain ⟨a, vs, rfl, hq, _⟩ := lst_at' W h e l
  exact .inl ⟨rfl, vs, hq⟩
/-- a name's list is there, then e, then the append -/
def appV (i : Nat) (g : Ev) : Ex := bndS (pk i) fun k s => if isLst k s = true ∧ (seqPk k s).isSome = true then bndS g (fun d => bndS (pk i) fun k' s => match appAt k' i d s with
  | some s' => .nx s'
  | none => .bad) s else .bad
theorem ds_appV {i : Nat} {x : Str} {px : Pos} (hb : DE X G e g) (hN : X.N[i]? = some x := by rfl) (hv : Vis X.env.scope x := by first | exact Or.inl rfl | exact Or.inr (Or.inl rfl) | exact Or.inr (Or.inr rfl))
    (hd : (x == ("__debug__" : Str)) = false := by decide) (hcd : (x == ("__classdict__" : Str)) = false := by decide)
    (hbase : attributeBase (.Name x px) "append" X.env (eval (.Name x px) X.env) = eval (.Name x px) X.env := by rfl)
    (hfew : ((backTo cpos (starEach [e] X.env)).all (fun x => !x.1) && (backToKw cpos (keywordEach [] X.env)).all (fun x => x.1.isSome) && decide ([e].length + ([] : List Keyword).length + (if ([] : List Keyword).isEmpty then 0 else 1) < 30)) = true := by rfl)
    (hline : (apos.endLine == cpos.line) = true := by rfl) (h1 : starEach [e] X.env = (false, eval e X.env) :: starEach [] X.env := by rfl) (hplain : (backTo cpos (starEach [] X.env)).any (·.1) = false := by rfl)
    (hs : swapsWith (.Call (.Attribute (.Name x px) "append" apos) [e] [] cpos) none pos.line X.env = pure false := by rfl) : DS X G (.Expr (.Call (.Attribute (.Name x px) "append" apos) [e] [] cpos) pos) (appV i g) :=
  PSi (ps_expr (pe_bm PySem.F.plainAttrs_list PySem.F.slot_list_append PySem.F.type_list_append mt_append (pe_var (i := i) hN hv hd hcd) (pa_cons hb pa_nil h1) hbase hfew hline h1 hplain) hs) fun D σ H ⟨w, s, W, h⟩ => by
    unfold appV at h
    unfold bndS at h
    cases ep : pk i s with
    | bad => rw [ep] at h; exact h.elim
    | ex c fs => exact (pk_ex ep).elim
    | ok k s0 =>
      obtain ⟨rfl, v, ev, rk⟩ := pk_at W ep
      rw [ep] at h
      simp only at h
      split at h
      · rename_i hl
        obtain ⟨ds, eds⟩ := Option.isSome_iff_exists.mp hl.2
        refine ⟨v, ev, tyL_at W rk hl.1 ds eds, w, _, W, PostS.bind h fun d s1 u w1 H1 m1 W1 r1 h => ?_⟩
        unfold bndS at h
        cases ep1 : pk i s1 with
        | bad => rw [ep1] at h; exact h.elim
        | ex c fs => exact (pk_ex ep1).elim
        | ok k1 s2 =>
          obtain ⟨rfl, v1, ev1, rk1⟩ := pk_at W1 ep1
          rw [ev] at ev1
          cases ev1
          rw [ep1] at h
          simp only at h
          split at h
          · rename_i s3 ea
            have fin : ∀ H', Mono w1 H1 w1 H' → Wd X.K X.mg G.B w1 σ s3 H' → D.nx σ H' := fun H' mo W' => h σ w1 H' mo W'
            cases k1 with
            | d y =>
              cases y with
              | loc n => exact app_st (Q := fun _ H' => D.nx σ H') W1 rk1 r1 ea fin
              | _ => cases ea
            | lin m =>
              have em : s2.sl[i]? = some (.lin m) := by
                unfold pk at ep1
                split at ep1
                · cases ep1
                · rename_i m' e1; cases ep1; exact e1
                · cases ep1
              exact app_sl (Q := fun _ H' => D.nx σ H') W1 em ev r1 ea fin
          · exact h.elim
      · exact h.elim
end
end Dz
namespace Dz
open PySem PySem.Spec PyProof.Rows L2
section
variable {X : Cx} {G : Env} {σ σ' : L2.St} {w w1 w' : Wo} {H H1 H' : Hp} {s s1 s' : Sta} {K : PySem.W.Frag} {mg : Str → Option Value} {B : Ba}
variable {a b c e o elt tg iter : Expr} {es ifs : List Expr} {f g h fe : Ev} {pos p2 p apos cpos spos : Pos} {rest : List Expr} {st : Stmt} {sts sts2 : List Stmt} {gs hs : Ex} {x : Str}
/-! ### list comprehensions -/
/-- the slots within: the comprehension's own are empty, and what only the def knows is not to be seen -/
def inSl (own : List Nat) (sl : List Sl) : List Sl := (List.range sl.length).map fun i => if i ∈ own then .un else match sl[i]? with
  | some (.v d) => .v d
  | _ => .un
theorem inSl_get {own : List Nat} {sl : List Sl} {i : Nat} {y : Sl} (e : (inSl own sl)[i]? = some y) : y = .un ∨ ∃ d, y = .v d ∧ i ∉ own ∧ sl[i]? = some (.v d) := by
  unfold inSl at e
  rw [List.getElem?_map] at e
  obtain ⟨j, ej, e⟩ := Option.map_eq_some_iff.mp e
  rw [List.getElem?_range] at ej
  · cases ej
    split at e
    · exact .inl e.symm
    · rename_i ni
      split at e
      · rename_i d ed; exact .inr ⟨d, e.symm, ni, ed⟩
      · exact .inl e.symm
  · by_cases h : i < sl.length
    · exact h
    · rw [List.getElem?_eq_none (by simpa using h)] at ej; cases ej
/-- one round after the other: what was made so far, and the store -/
def lcGo (sl : List Sl) (t : Tg) (tt : Sta → Res Bool) (fe : Ev) : List D → List P → Option (List MO) → Option (List P × Option (List MO))
  | [], acc, st => some (acc, st)
  | d :: ds, acc, st => match t d ⟨sl, st⟩ with
    | some s1 => match tt s1 with
      | .ok true s2 => match fe s2 with
        | .ok (.p x) s3 => if acc.length < sizeLine then lcGo sl t tt fe ds (acc ++ [x]) s3.st else none
        | _ => none
      | .ok false s2 => lcGo sl t tt fe ds acc s2.st
      | _ => none
    | none => none
def lcF (fi : Sta → Res (List D)) (own : List Nat) (t : Tg) (tt : Sta → Res Bool) (fe : Ev) : Sta → Res Lin := bnd fi fun ds s => match lcGo (inSl own s.sl) t tt fe ds [] s.st with
  | some (xs, st) => .ok (.lst xs) ⟨s.sl, st⟩
  | none => .bad
def G0 (w : Wo) (H : Hp) : Env := ⟨⟨w, H⟩, E0⟩
def yesT : Sta → Res Bool := fun s => .ok true s
def DTs (X : Cx) (G : Env) (ifs : List Expr) (t : Sta → Res Bool) : Prop := PTs X ifs (tT X G t)
theorem dts_nil : DTs X G [] yesT := ⟨fun pins s σ H Q I ⟨w, s0, W, h⟩ => pts_nil.run pins s σ H Q I (Post.here (R := RB) W rfl h)⟩
theorem dts_one {ft : Sta → Res Bool} (h : DT X G c ft) : DTs X G [c] ft := pts_one h
/-- the state at a round's beginning -/
theorem in_start {own : List Nat} {sl : List Sl} {stt : Option (List MO)} (sn : Sound w H) (so : StOk K mg H w stt) (hl : sl.length ≤ σ.length)
    (hsl : ∀ (i : Nat) (d : D), sl[i]? = some (.v d) → ∃ v, σ[i]? = some (some v) ∧ Vd K H w d v) : Wd K mg ⟨w, H⟩ w (wipe σ own) ⟨inSl own sl, stt⟩ H where
  ext := .refl
  snd := sn
  sb := sn
  sto := so
  sl := fun i y e => by
    rcases inSl_get e with rfl | ⟨d, rfl, ni, ed⟩
    · trivial
    · obtain ⟨v, ev, hv⟩ := hsl i d ed
      refine ⟨v, ?_, hv⟩
      rw [wipe_out ni]
      exact ev
  len := by
    show (inSl own sl).length ≤ (wipe σ own).length
    rw [wipe_length]
    unfold inSl
    simpa using hl
  two := fun i j _ hi _ => by
    have hi : isLin (inSl own sl)[i]? = true := hi
    cases e : (inSl own sl)[i]? with
    | none => rw [e] at hi; cases hi
    | some y => rcases inSl_get e with rfl | ⟨d, rfl, _, _⟩ <;> rw [e] at hi <;> cases hi
/-- a target that stores only the comprehension's own names -/
def RawG (X : Cx) (own : List Nat) (gg : TG) (t : Tg) : Prop := ∀ (B : Ba) w s d v σ H Q s', Wd X.K X.mg B w σ s H → Vd X.K H w d v → t d s = some s' → (∀ σ', wipe σ' own = wipe σ own → Wd X.K X.mg B w σ' s' H → Q σ' H) → gg v σ H Q
theorem wipe_set {v : Option V} : ∀ {own : List Nat} {i : Nat} {σ : L2.St}, i ∈ own → wipe (σ.set i v) own = wipe σ own := fun {own i σ} h => by
  apply List.ext_getElem?
  intro j
  by_cases hj : j ∈ own
  · have e1 : ∀ τ : L2.St, τ.length = σ.length → (wipe τ own)[j]? = if j < σ.length then some none else none := fun τ ht => by
      cases e : (wipe τ own)[j]? with
      | none =>
        have : τ.length ≤ j := by rw [← wipe_length τ own]; exact List.getElem?_eq_none_iff.mp e
        rw [if_neg (by omega)]
      | some o =>
        have hl : j < τ.length := by rw [← wipe_length τ own]; exact (List.getElem?_eq_some_iff.mp e).1
        rw [if_pos (by omega)]
        cases o with
        | none => rfl
        | some x => exact absurd hj (wipe_some e).2
    rw [e1 σ rfl, e1 (σ.set i v) (by simp)]
  · rw [wipe_out hj, wipe_out hj, List.getElem?_set, if_neg (fun z => hj (by rw [← z]; exact h))]
theorem wipe_in {own : List Nat} {j : Nat} (hj : j ∈ own) (τ : L2.St) : (wipe τ own)[j]? = if j < τ.length then some none else none := by
  cases e : (wipe τ own)[j]? with
  | none =>
    have : τ.length ≤ j := by rw [← wipe_length τ own]; exact List.getElem?_eq_none_iff.mp e
    rw [if_neg (by omega)]
  | some o =>
    have hl : j < τ.length := by rw [← wipe_length τ own]; exact (List.getElem?_eq_some_iff.mp e).1
    rw [if_pos (by omega)]
    cases o with
    | none => rfl
    | some x => exact absurd hj (wipe_some e).2
theorem wipe_wipe {own : List Nat} {σ : L2.St} : wipe (wipe σ own) own = wipe σ own := by
  apply List.ext_getElem?
  intro j
  by_cases hj : j ∈ own
  · rw [wipe_in hj, wipe_in hj, wipe_length]
  · rw [wipe_out hj]
theorem raw_name {own : List Nat} {i : Nat} (h : i ∈ own) : RawG X own (gName i) (nameG i) := fun B w s d v σ H Q s' W hv e k => by
  cases e
  exact k _ (wipe_set h) (W.setv hv)
/-- names in a row -/
def namesG : List Nat → Tgs
  | [] => nilG
  | i :: is => consG (nameG i) (namesG is)
def namesV : List Nat → TGs
  | [] => gNil
  | i :: is => gCons (gName i) (namesV is)
theorem raw_names {own : List Nat} : ∀ {is : List Nat}, (∀ i ∈ is, i ∈ own) → ∀ {B : Ba} {w : Wo} {s s' : Sta} {ds : List D} {vs : List V} {σ : L2.St} {H : Hp} {Q : L2.St → Hp → Prop}, Wd X.K X.mg B w σ s H → VdL X.K H w ds vs → namesG is ds s = some s' →
    (∀ σ', wipe σ' own = wipe σ own → Wd X.K X.mg B w σ' s' H → Q σ' H) → namesV is vs σ H Q
  | [], _, B, w, s, s', ds, vs, σ, H, Q, W, t, e, k => by
    cases t with
    | nil => cases e; exact ⟨rfl, k σ rfl W⟩
    | cons _ _ => cases e
  | i :: is, hi, B, w, s, s', ds, vs, σ, H, Q, W, t, e, k => by
    cases t with
    | nil => cases e
    | @cons d ds v vs a t =>
      refine ⟨v, vs, rfl, ?_⟩
      unfold namesG consG nameG at e
      simp only at e
      refine raw_names (fun j hj => hi j (by simp [hj])) (W.setv a) t e fun σ' hw W' => k σ' ?_ W'
      rw [hw, wipe_set (hi i (by simp))]
theorem raw_tup {own is : List Nat} (h : ∀ i ∈ is, i ∈ own) : RawG X own (gTup X.K is.length (namesV is)) (tupG is.length (namesG is)) := fun B w s d v σ H Q s' W hv e k => by
  unfold tupG at e
  split at e
  · rename_i ds ed
    split at e
    · rename_i hl
      obtain ⟨a, vs, rfl, hq, tl⟩ := tup_at' W hv ed
      exact ⟨a, vs, rfl, hq, by rw [← tl.len]; exact hl, raw_names h W tl e k⟩
    · cases e
  · cases e
theorem Ext.updF {p : Addr} {u : HO} (x : Ext w H w' H') (np : H p = none) : Ext w H w' (upd H' p u) :=
  ⟨fun a o e n => by rw [upd_ne (fun z => by subst z; rw [e] at np; cases np)]; exact x.keep a o e n, x.pre, x.newr, x.imm, x.newi, fun a h => by
    by_cases e : a = p
    · subst e; exact np
    · rw [upd_ne e] at h; exact x.there a h, fun a xs e => by rw [upd_ne (fun z => by subst z; rw [e] at np; cases np)]; exact x.tup a xs e⟩
theorem Sound.updF {p : Addr} {u : HO} (h : Sound w H) : Sound w (upd H p u) :=
  ⟨h.nd, fun a ha z => by
    by_cases e : a = p
    · subst e; rw [upd_same] at z; cases z
    · rw [upd_ne e] at z; exact h.rt a ha z, h.ri, fun a ha z => by
    by_cases e : a = p
    · subst e; rw [upd_same] at z; cases z
    · rw [upd_ne e] at z; exact h.it a ha z⟩
theorem StOk.updF {p : Addr} {u : HO} {vs : List V} {S : Option (List MO)} (h : StOk K mg H w S) (e : H p = some (.lst vs)) (n1 : p ∉ w.ρ) (n2 : ¬ w.I p) : StOk K mg (upd H p u) w S := by
  cases S with
  | none => trivial
  | some S =>
    refine ⟨h.1, fun n b m e1 e2 => (h.2 n b m e1 e2).mono (fun o eo => ?_) (fun d ed => ?_) (.wr n2)⟩
    · rw [upd_ne (fun z => by subst z; exact n1 (List.mem_of_getElem? e1))]; exact eo
    · rw [upd_ne (fun z => by subst z; rw [e] at ed; cases ed)]; exact ed
/-- the readings of a round: at any entry -/
def tT0 (X : Cx) (f : Sta → Res Bool) : TT := fun σ H Q => ∃ w0 H0, tT X (G0 w0 H0) f σ H Q
def tE0 (X : Cx) (f : Ev) : TE := fun σ H Q => ∃ w0 H0, tE X (G0 w0 H0) f σ H Q
theorem lc_read {own : List Nat} {fi : Sta → Res (List D)} {t : Tg} {tt : Sta → Res Bool} {gg : TG} (hr : RawG X own gg t) {Q : VK} (h0 : tF X G (lcF fi own t tt fe) σ H Q) : tLc (tI X G fi) gg (tT0 X tt) (tE0 X fe) own σ H Q := by
  obtain ⟨w, s, W, h⟩ := h0
  refine ⟨w, s, W, ?_⟩
  unfold lcF bnd at h
  cases ef : fi s with
  | bad => rw [ef] at h; exact h.elim
  | ex c fs => rw [ef] at h; exact h
  | ok ds s' =>
    rw [ef] at h
    simp only at h
    intro w1 H1 J m1 W1 wk D nD
    have h := PostF.at m1 h
    cases el : lcGo (inSl own s'.sl) t tt fe ds [] s'.st with
    | none => rw [el] at h; exact h.elim
    | some r =>
      obtain ⟨xs, stE⟩ := r
      rw [el] at h
      obtain ⟨Gs, Y, wlk, hG, hY⟩ := wk
      have b0 := W1.bare (o := .lst []) nD
      have x0 : Ext w1 H1 w1 (upd H1 D (.lst [])) := Ext.refl.updF nD
      refine lc_it wlk (fun i H => ∃ wi acc vs st, Ext w1 H1 wi H ∧ Sound wi H ∧ StOk X.K X.mg H wi st ∧ H D = some (.lst vs) ∧ TdL X.K false H wi.I acc vs ∧ D ∉ wi.ρ ∧ ¬ wi.I D ∧ lcGo (inSl own s'.sl) t tt fe (ds.drop i) acc st = some (xs, stE))
        ⟨w1, [], [], s'.st, x0, b0.2.1.snd, b0.2.1.sto, upd_same, .nil, b0.2.2.1, b0.2.2.2.1, by rw [List.drop_zero]; exact el⟩ (fun i H _ ⟨wi, _, _, _, x, _⟩ => hG wi H (x.mono W1.snd)) ?_ ?_
      · rintro i x H2 H3 hi ⟨wi, acc, vs, st, xi, sn, so, hD, tl, nr, ni, go⟩ y
        have mi : Mono w1 H1 wi H2 := xi.mono W1.snd
        have Wi : Wd X.K X.mg ⟨wi, H2⟩ wi (wipe σ own) ⟨inSl own s'.sl, st⟩ H2 := in_start sn so W1.len fun j d ej => by
          obtain ⟨v, ev, hv⟩ := W1.sl j _ ej
          exact ⟨v, ev, hv.mono mi⟩
        obtain ⟨w2, d, m2, W2, ed, vd⟩ := yield_at (G := G0 wi H2) (J := J) (Y := Y) Wi (hY i H2 x H3 wi hi mi sn y)
        have ed' : ds.drop i = d :: ds.drop (i + 1) := by
          rw [List.drop_eq_getElem_cons hi]
          rw [List.getElem?_eq_getElem hi] at ed
          rw [Option.some.inj ed]
        rw [ed', lcGo] at go
        cases et : t d ⟨inSl own s'.sl, st⟩ with
        | none => simp only [et] at go; cases go
        | some s1 =>
          simp only [et] at go
          refine hr _ _ _ _ _ _ _ _ _ W2 vd et fun σ3 hw3 W3 => ⟨hw3.trans wipe_wipe, wi, H2, w2, s1, W3, ?_⟩
          cases ett : tt s1 with
          | bad => simp only [ett] at go; cases go
          | ex c fs => simp only [ett] at go; cases go
          | ok k s2 =>
            simp only [ett] at go
            intro k' w4 H4 m4 W4 rk
            cases (show k = k' from rk)
            cases k with
            | false =>
              simp only at go
              rw [if_neg Bool.false_ne_true]
              have x4 : Ext wi H2 w4 H4 := W4.ext
              refine ⟨w4, acc, vs, s2.st, xi.trans x4, W4.snd, W4.sto, x4.keep _ _ hD nr, tl.mono (x4.mono sn).imm, fun z => ?_, fun z => ?_, go⟩
              · rcases x4.newr _ z with z | z
                · exact nr z
                · rw [hD] at z; cases z
              · rcases x4.newi _ z with z | z
                · exact ni z
                · rw [hD] at z; cases z
            | true =>
              simp only at go
              rw [if_pos rfl]
              refine ⟨wi, H2, w4, s2, W4, ?_⟩
              cases ee : fe s2 with
              | bad => rw [ee] at go; cases go
              | ex c fs => rw [ee] at go; cases go
              | ok y s3 =>
                rw [ee] at go
                cases y with
                | p yp =>
                  simp only at go
                  split at go
                  · rename_i hz
                    intro v w5 H5 m5 W5 rv
                    have x5 : Ext wi H2 w5 H5 := W5.ext
                    have hD5 : H5 D = some (.lst vs) := x5.keep _ _ hD nr
                    have nr5 : D ∉ w5.ρ := fun z => by
                      rcases x5.newr _ z with z | z
                      · exact nr z
                      · rw [hD] at z; cases z
                    have ni5 : ¬ w5.I D := fun z => by
                      rcases x5.newi _ z with z | z
                      · exact ni z
                      · rw [hD] at z; cases z
                    have t5 : TdL X.K false H5 w5.I acc vs := tl.mono (x5.mono sn).imm
                    have mo : Mono w5 H5 w5 (upd H5 D (.lst (vs ++ [v]))) := .wr ni5
                    cases (show Vd X.K H5 w5 (.p yp) v from rv) with
                    | p ty =>
                      exact ⟨vs, hD5, by rw [← tl.len]; exact hz, w5, acc ++ [yp], vs ++ [v], s3.st, (xi.trans x5).updF nD, W5.snd.updF, W5.sto.updF hD5 nr5 ni5, upd_same, (t5.mono mo.imm).snoc (ty.mono mo.imm), nr5, ni5, go⟩
                  · cases go
                | _ => cases go
      · rintro H2 ⟨wi, acc, vs, st, xi, sn, so, hD, tl, nr, ni, go⟩
        rw [List.drop_length, lcGo] at go
        cases go
        exact h D wi H2 (xi.mono W1.snd) (W1.step xi sn so) (.lst hD tl) nr ni (W1.ext.there D nD) fun j hj z => by
          obtain ⟨a, _, e1, h1, _⟩ := W1.linAddr hj
          rw [e1] at z
          cases z
          exact h1.there nD
section
variable {scope : Scope} {own : List (Str × Nat)} {fi : Sta → Res (List D)} {t : Tg} {tt : Sta → Res Bool} {gg : TG}
theorem df_lc (hc : X.calm = true) (hN : X.N.Nodup) (hi : DI X G tg iter fi) (ok : BlkOk X.N X.env.scope scope own)
    (hg : ∀ (s : Shared) (H : Hp) (C : Addr) (cl : List (Str × Addr)) (fp : List Addr), PG (X.blk s H scope (compEnvC scope cl C X.env) fp) tg gg) (hr : RawG X (own.map (·.2)) gg t)
    (ht : ∀ (s : Shared) (H : Hp) (C : Addr) (cl : List (Str × Addr)) (fp : List Addr) (G' : Env), G'.E = E0 → DTs (X.blk s H scope (compEnvC scope cl C X.env) fp) G' ifs tt)
    (he : ∀ (s : Shared) (H : Hp) (C : Addr) (cl : List (Str × Addr)) (fp : List Addr) (G' : Env), G'.E = E0 → DE (X.blk s H scope (compEnvC scope cl C X.env) fp) G' elt fe)
    (hs : ∀ x, foldedSetIterable iter X.env x = pure x := by intro _; rfl) : DF X G (.ListComp elt [⟨tg, iter, ifs, 0⟩] scope pos) (lcF fi (own.map (·.2)) t tt fe) :=
  PEi (pe_lc (g := gg) (tt := tT0 X tt) (te := tE0 X fe) hc hN hi ok hg (fun s H C cl fp => ⟨fun pins s1 σ1 H1 Q I ⟨w0, H0, q⟩ => (ht s H C cl fp (G0 w0 H0) rfl).run pins s1 σ1 H1 Q I q⟩) (fun s H C cl fp => ⟨fun pins s1 σ1 H1 Q I ⟨w0, H0, q⟩ => (he s H C cl fp (G0 w0 H0) rfl).run pins s1 σ1 H1 Q I q⟩) hs) fun σ H Q h => lc_read hr h
/-- y = [..]: y is known from then on -/
theorem ds_setLc {i : Nat} {y : Str} {py : Pos} (hc : X.calm = true) (hN : X.N.Nodup) (hy : X.N[i]? = some y) (hyl : X.env.scope.names.lookup y = some .local)
    (hsw : swapsWith (.ListComp elt [⟨tg, iter, ifs, 0⟩] scope pos) (some (.Name y py)) spos.line X.env = pure true) (hi : DI X G tg iter fi) (ok : BlkOk X.N X.env.scope scope own)
    (hg : ∀ (s : Shared) (H : Hp) (C : Addr) (cl : List (Str × Addr)) (fp : List Addr), PG (X.blk s H scope (compEnvC scope cl C X.env) fp) tg gg) (hr : RawG X (own.map (·.2)) gg t)
    (ht : ∀ (s : Shared) (H : Hp) (C : Addr) (cl : List (Str × Addr)) (fp : List Addr) (G' : Env), G'.E = E0 → DTs (X.blk s H scope (compEnvC scope cl C X.env) fp) G' ifs tt)
    (he : ∀ (s : Shared) (H : Hp) (C : Addr) (cl : List (Str × Addr)) (fp : List Addr) (G' : Env), G'.E = E0 → DE (X.blk s H scope (compEnvC scope cl C X.env) fp) G' elt fe)
    (hs : ∀ x, foldedSetIterable iter X.env x = pure x := by intro _; rfl) : DS X G (.Assign [.Name y py] (.ListComp elt [⟨tg, iter, ifs, 0⟩] scope pos) spos) (bndS (lcF fi (own.map (·.2)) t tt fe) (setL i)) :=
  PSi (ps_setLc (g := gg) (tt := tT0 X tt) (te := tE0 X fe) hc hN hy hyl hsw hi ok hg (fun s H C cl fp => ⟨fun pins s1 σ1 H1 Q I ⟨w0, H0, q⟩ => (ht s H C cl fp (G0 w0 H0) rfl).run pins s1 σ1 H1 Q I q⟩) (fun s H C cl fp => ⟨fun pins s1 σ1 H1 Q I ⟨w0, H0, q⟩ => (he s H C cl fp (G0 w0 H0) rfl).run pins s1 σ1 H1 Q I q⟩) hs)
    fun D σ H ⟨w, s, W, h⟩ => lc_read hr (tF_bind W h fun m s1 a w1 H1 mo W1 l n1 n2 n3 n4 h1 => h1 _ w1 H1 .refl (W1.setl l n1 n2 n3 n4))
end
end
end Dz
namespace Dz
open PySem PySem.Spec PyProof.Rows L2
section
variable {X : Cx} {G : Env} {σ σ' : L2.St} {w w1 w' : Wo} {H H1 H' : Hp} {s s1 s' : Sta} {K : PySem.W.Frag} {mg : Str → Option Value} {B : Ba}
variable {a b c e o : Expr} {es : List Expr} {f g h : Ev} {pos p2 p apos cpos : Pos} {st : Stmt} {x : Str}
variable {P : Program} {wd : World} {base : Heap}
/-- a def by its body, with what the body's rules ask -/
theorem fnB {x qual : Str} {st : Stmt} {fa : Addr} {fd : FuncData} {N ps : List Str} {lv k : Nat} {g : Ex} (F : Fun K x qual st fa fd) (S : FnScope N ps (defScope st)) (hk : ps.length + k = N.length)
    (hb : ∀ (cdv : Value) (A : Around) (outer : List PySem.Env) (s : Shared) (H : Hp) (E : XK) (G : Env), Room lv (cxOf (L2.CX P wd) P wd K mg base N qual (defScope st) fa cdv A outer s H E).A → (cxOf (L2.CX P wd) P wd K mg base N qual (defScope st) fa cdv A outer s H E).A.units + 64 < cLine →
      Passes (L2.CX P wd) (cxOf (L2.CX P wd) P wd K mg base N qual (defScope st) fa cdv A outer s H E) G.E →
      PassesOwn (model P wd) (cxOf (L2.CX P wd) P wd K mg base N qual (defScope st) fa cdv A outer s H E).A (cxOf (L2.CX P wd) P wd K mg base N qual (defScope st) fa cdv A outer s H E).env (cxOf (L2.CX P wd) P wd K mg base N qual (defScope st) fa cdv A outer s H E).xe →
      DSs (cxOf (L2.CX P wd) P wd K mg base N qual (defScope st) fa cdv A outer s H E) G (defBody st) g) :
    FnOk P wd K mg base (L2.CX P wd) (lv + 1) fa fd ps (spD K mg (runD ps.length g k)) := by
  refine fnD F S hk fun cdv A outer s H E G hr hG => ?_
  subst hG
  exact hb cdv A outer s H _ G hr hr.units (passD (takes_of rfl rfl rfl rfl)) (passes_of rfl)
theorem fnBad {lv : Nat} {fa : Addr} {fd : FuncData} {ps : List Str} : FnOk P wd K mg base (L2.CX P wd) lv fa fd ps (spD K mg fun _ _ => .bad) :=
  ⟨fun vs H Q E ⟨w, ds, st, _, _, _, h⟩ => h.elim, fun A outer s H args us vs Q E _ _ _ _ ⟨w, ds, st, _, _, _, h⟩ => h.elim⟩
/-- where a def stands -/
structure HereD (K : PySem.W.Frag) (mg : Str → Option Value) (x : Str) (st : Stmt) (ps : List Str) : Prop where
  ex : ∃ fa fd, Fun K x x st fa fd ∧ mg x = some (.ref fa) ∧ Binds K fd ps []
theorem HereD.has {st : Stmt} {ps : List Str} {lv : Nat} {m : Fn} (h : HereD K mg x st ps) (ok : ∀ fa fd, Fun K x x st fa fd → FnOk P wd K mg base (L2.CX P wd) lv fa fd ps (spD K mg m)) : HasD P wd K mg base lv x ps m := by
  obtain ⟨fa, fd, F, h1, h2⟩ := h.ex
  exact ⟨fa, fd, ok fa fd F, h1, F.kp, h2⟩
variable {lv lw : Nat} {ps : List Str} {m : Fn}
def noA : Sta → Res (List D) := fun s => .ok [] s
theorem de_callP0 (F : HasD X.prog X.w X.K X.mg X.base lv x ps m) (hr : Room lw X.A) (hlv : lv ≤ lw) (hx : Passes (L2.CX X.prog X.w) X G.E) (hg : Gl X x) (hdb : (x == ("__debug__" : Str)) = false := by decide) : DE X G (.Call (.Name x p) [] [] pos) (callP m nilA) := by
  obtain ⟨fa', fd, Fk, h1, h2, h3⟩ := F.here
  exact PEi (pe_call0 Fk (hr.mono hlv) hg h1 h2 h3 .nil hx hdb) fun σ H Q ⟨w, s, W, h⟩ => by
    show spD X.K X.mg m ([] ++ []) H Q G.E
    exact callP_at W .nil h
theorem de_callS0 (F : HasD X.prog X.w X.K X.mg X.base lv x ps m) (hr : Room lw X.A) (hlv : lv ≤ lw) (hx : Passes (L2.CX X.prog X.w) X G.E) (hg : Gl X x) (hdb : (x == ("__debug__" : Str)) = false := by decide) : DE X G (.Call (.Name x p) [] [] pos) (callS m nilA) := by
  obtain ⟨fa', fd, Fk, h1, h2, h3⟩ := F.here
  exact PEi (pe_call0 Fk (hr.mono hlv) hg h1 h2 h3 .nil hx hdb) fun σ H Q ⟨w, s, W, h⟩ => by
    show spD X.K X.mg m ([] ++ []) H Q G.E
    exact callS_at W .nil h
/-- x += e of ints -/
def augS (i : Nat) (g : Ev) (k : Int → Int → Int) : Ex := fun s => match s.sl[i]? with
  | some (.v (.p (.int n))) => bndS g (fun d s => match d with
    | .p (.int j) => .nx ⟨s.sl.set i (.v (.p (.int (k n j)))), s.st⟩
    | _ => .bad) s
  | _ => .bad
theorem aug_read {i : Nat} {k : Int → Int → Int} {D : Ends} (W : Wd X.K X.mg G.B w σ s H) (h : PostS X G w H (augS i g k s) D) : tAug i (tE X G g) (ipI k) D σ H := by
  unfold augS at h
  split at h
  · rename_i n e
    obtain ⟨v, ev, hv⟩ := W.sl i _ e
    cases hv with
    | p t =>
      cases t
      refine ⟨_, ev, w, s, W, PostS.bind h fun d s1 u w1 H1 m1 W1 r1 h1 => ?_⟩
      split at h1
      · cases (show Vd X.K H1 w1 _ u from r1) with
        | p t => cases t; exact ⟨_, _, rfl, rfl, h1 _ w1 H1 .refl (W1.setv (.p (.int _)))⟩
      · exact h1.elim
  · exact h.elim
theorem ds_augA {i : Nat} {pos' : Pos} (hN : X.N.Nodup) (hi : X.N[i]? = some x) (hx : Loc X.env.scope x) (ha : DE X G a g) (hf : X.fn x = true ∨ X.env.scope.names.lookup x = some .local := by first | exact .inl rfl | exact .inr rfl | assumption) : DS X G (.AugAssign (.Name x pos') .Add a pos) (augS i g (· + ·)) :=
  PSi (ps_aug hN hi hx ha ip_add hf) fun D σ H ⟨w, s, W, h⟩ => aug_read W h
theorem ds_augB {i : Nat} {pos' : Pos} (hN : X.N.Nodup) (hi : X.N[i]? = some x) (hx : Loc X.env.scope x) (ha : DE X G a g) (hf : X.fn x = true ∨ X.env.scope.names.lookup x = some .local := by first | exact .inl rfl | exact .inr rfl | assumption) : DS X G (.AugAssign (.Name x pos') .Sub a pos) (augS i g (· - ·)) :=
  PSi (ps_aug hN hi hx ha ip_sub hf) fun D σ H ⟨w, s, W, h⟩ => aug_read W h
end
end Dz
namespace Dz
open PySem PySem.Spec PyProof.Rows L2
section
variable {X : Cx} {G : Env} {σ σ' : L2.St} {w w1 w' : Wo} {H H1 H' : Hp} {s s1 s' : Sta} {K : PySem.W.Frag} {mg : Str → Option Value} {B : Ba}
variable {a b c e o : Expr} {es : List Expr} {f g h : Ev} {pos p2 p apos cpos spos : Pos} {st : Stmt} {x : Str}
/-! ### dict displays -/
def dispGo (sl : List Sl) : List (Key × Ev) → List (Key × D) → Option (List MO) → Option (List (Key × D) × Option (List MO))
  | [], acc, st => some (acc, st)
  | (k, f) :: r, acc, st => match f ⟨sl, st⟩ with
    | .ok d s' => dispGo sl r (acc ++ [(k, d)]) s'.st
    | _ => none
def disp (es : List (Key × Ev)) : Sta → Res (List (Key × D)) := fun s => match dispGo (inSl [] s.sl) es [] s.st with
  | some (kvs, st) => .ok kvs ⟨s.sl, st⟩
  | none => .bad
/-- the written pairs, as readings at any entry -/
def trsOf (X : Cx) (es : List (Key × Ev)) : List (TE × TE) := es.map fun kf => (tC (kV kf.1), tE0 X kf.2)
inductive DPs (X : Cx) (pos : Pos) : List (Option Expr) → List Expr → List (Key × Ev) → Prop
  | nil : DPs X pos [] [] []
  | cons {k v : Expr} {ks : List (Option Expr)} {vs : List Expr} {kk : Key} {f : Ev} {es : List (Key × Ev)} : PE X k (tC (kV kk)) → (∀ w0 H0, DE (X.wish fun _ _ => False) (G0 w0 H0) v f) → DPs X pos ks vs es → DPs X pos (some k :: ks) (v :: vs) ((kk, f) :: es)
theorem PE.unw {X : Cx} {e : Expr} {t : TE} (h : PE (X.wish fun _ _ => False) e t) : PE X e t := PE.nox h
theorem DPs.pps {es : List (Key × Ev)} {ks : List (Option Expr)} {vs : List Expr} (h : DPs X pos ks vs es) : PPs X pos ks vs (trsOf X es) := by
  induction h with
  | nil => exact pps_nil
  | @cons k v ks vs kk f es h1 h2 _ ih =>
    refine pps_cons h1 ⟨fun pins s σ H Q I ⟨w0, H0, q⟩ => (PE.nox (h2 w0 H0)).run pins s σ H Q I q⟩ ih
theorem wipe_nil {σ : L2.St} : wipe σ [] = σ := rfl
theorem VdK.mapK {κ : Type} {kvs : List (κ × D)} {vs : List (κ × V)} (t : VdK K H w kvs vs) : kvs.map (·.1) = vs.map (·.1) := by
  induction t with
  | nil => rfl
  | cons _ _ ih => simp [ih]
theorem VdK.app {κ : Type} {a b : List (κ × D)} {c d : List (κ × V)} (t : VdK K H w a c) (u : VdK K H w b d) : VdK K H w (a ++ b) (c ++ d) := by
  induction t with
  | nil => exact u
  | cons h _ ih => exact .cons h ih
theorem putK_new {kvs : List (Key × V)} {k : Key} {v : V} (h : k ∉ kvs.map (·.1)) : putK kvs k v = kvs ++ [(k, v)] := by
  unfold putK
  rw [if_neg]
  intro z
  rw [List.any_eq_true] at z
  obtain ⟨kv, hm, e⟩ := z
  exact h (by rw [← of_decide_eq_true e]; exact List.mem_map_of_mem hm)
theorem merge_new : ∀ {more kvs : List (Key × V)}, ((kvs ++ more).map (·.1)).Nodup → mergeK kvs more = kvs ++ more
  | [], kvs, _ => by simp [mergeK]
  | (k, v) :: more, kvs, h => by
    have e : mergeK kvs ((k, v) :: more) = mergeK (putK kvs k v) more := rfl
    have hk : k ∉ kvs.map (·.1) := fun z => by
      rw [List.map_append, List.map_cons] at h
      exact (List.nodup_append.mp h).2.2 k z k (by simp) rfl
    rw [e, putK_new hk, merge_new (by simpa using h)]
    simp
/-- what the pairs give: Q of the dict at p, made of them -/
theorem pairs_read {es : List (Key × Ev)} : ∀ {acc kvs : List (Key × D)} {vs : List (Key × V)} {stt stE : Option (List MO)} {wi : Wo} {Hi : Hp} {sl : List Sl} {pA : Addr} {R : List (V × V) → Hp → Prop}, Sound w1 H1 → Ext w1 H1 wi Hi → Sound wi Hi → StOk X.K X.mg Hi wi stt →
    (∀ (i : Nat) (d : D), sl[i]? = some (.v d) → ∃ v, σ[i]? = some (some v) ∧ Vd X.K H1 w1 d v) → sl.length ≤ σ.length → Hi pA = some (.dK []) → pA ∉ wi.ρ → ¬ wi.I pA → VdK X.K Hi wi acc vs → dispGo (inSl [] sl) es acc stt = some (kvs, stE) →
    (∀ more we He, Ext w1 H1 we He → Sound we He → StOk X.K X.mg He we stE → He pA = some (.dK []) → pA ∉ we.ρ → ¬ we.I pA → VdK X.K He we kvs (vs ++ more) → R (more.map fun kv => (kV kv.1, kv.2)) He) →
    tPairs (trsOf X es) σ Hi R := by
  induction es with
  | nil =>
    intro acc kvs vs stt stE wi Hi sl pA R s1 x sn so hsl hl hp nr ni t e k
    cases e
    exact k [] _ _ x sn so hp nr ni (by rw [List.append_nil]; exact t)
  | cons kf es ih =>
    obtain ⟨kk, f⟩ := kf
    intro acc kvs vs stt stE wi Hi sl pA R s1 x sn so hsl hl hp nr ni t e k
    rw [dispGo] at e
    have Wi : Wd X.K X.mg ⟨wi, Hi⟩ wi (wipe σ []) ⟨inSl [] sl, stt⟩ Hi := in_start sn so hl fun j d ej => by
      obtain ⟨v, ev, hv⟩ := hsl j d ej
      exact ⟨v, ev, hv.mono (x.mono s1)⟩
    rw [wipe_nil] at Wi
    show tC (kV kk) σ Hi fun x H1 => tE0 X f σ H1 fun y H2 => tPairs (trsOf X es) σ H2 fun ps H3 => R ((x, y) :: ps) H3
    refine ⟨wi, Hi, wi, _, Wi, ?_⟩
    cases ef : f ⟨inSl [] sl, stt⟩ with
    | bad => rw [ef] at e; cases e
    | ex c fs => rw [ef] at e; cases e
    | ok d s2 =>
      rw [ef] at e
      intro v w2 H2 m2 W2 r2
      have x2 : Ext wi Hi w2 H2 := W2.ext
      have hp2 := x2.keep _ _ hp nr
      have nr2 : pA ∉ w2.ρ := fun z => by
        rcases x2.newr _ z with z | z
        · exact nr z
        · rw [hp] at z; cases z
      have ni2 : ¬ w2.I pA := fun z => by
        rcases x2.newi _ z with z | z
        · exact ni z
        · rw [hp] at z; cases z
      have t2 : VdK X.K H2 w2 (acc ++ [(kk, d)]) (vs ++ [(kk, v)]) := (t.mono m2).app (.cons (show Vd X.K H2 w2 d v from r2) .nil)
      exact ih (R := fun ps H3 => R ((kV kk, v) :: ps) H3) s1 (x.trans x2) W2.snd W2.sto hsl hl hp2 nr2 ni2 t2 e fun more we He g1 g2 g3 g4 g5 g6 g7 => k ((kk, v) :: more) we He g1 g2 g3 g4 g5 g6 (by simpa using g7)
/-- all the values are data -/
def dispF (es : List (Key × Ev)) : Sta → Res Lin := bnd (disp es) fun kvs s => match kvs.mapM (fun kd => (unP kd.2).map fun x => (kd.1, x)) with
  | some xs => if (kvs.map (·.1)).Nodup ∧ kvs.length ≤ 15 then .ok (.dic xs) s else .bad
  | none => .bad
def dispS (es : List (Key × Ev)) : Ev := bnd (disp es) fun kvs s => if (kvs.map (·.1)).Nodup ∧ kvs.length ≤ 15 then alloc (.dic kvs) s else .bad
/-- the dict stands at p: what is known of it -/
theorem disp_read {es : List (Key × Ev)} {kvs : List (Key × D)} {stE : Option (List MO)} {Q : VK} (W : Wd X.K X.mg G.B w σ s H) (e : dispGo (inSl [] s.sl) es [] s.st = some (kvs, stE)) (nd : (kvs.map (·.1)).Nodup) (h15 : kvs.length ≤ 15)
    (k : ∀ (p : Addr) (vs : List (Key × V)) we He, H p = none → Ext w H we He → Sound we He → StOk X.K X.mg He we stE → He p = some (.dK vs) → p ∉ we.ρ → ¬ we.I p → VdK X.K He we kvs vs → Q (.ref p) He) : tDisp (trsOf X es) σ H Q := by
  intro p np
  have b0 := W.bare (o := .dK []) np
  have x0 : Ext w H w (upd H p (.dK [])) := Ext.refl.updF np
  refine pairs_read W.snd x0 b0.2.1.snd b0.2.1.sto (fun i d ed => W.sl i _ ed) W.len upd_same b0.2.2.1 b0.2.2.2.1 .nil e fun more we He g1 g2 g3 g4 g5 g6 g7 => ⟨g4, more, rfl, by have := VdK.len g7; simp only [List.nil_append] at this; omega, ?_⟩
  have g7 : VdK X.K He we kvs more := g7
  have nd' : (more.map (·.1)).Nodup := by rw [← g7.mapK]; exact nd
  rw [merge_new (by simpa using nd'), List.nil_append]
  refine k p more we _ np (g1.updF np) g2.updF ?_ upd_same g5 g6 (g7.mono (.wr g6))
  cases stE with
  | none => trivial
  | some S =>
    refine ⟨g3.1, fun n b m e1 e2 => (g3.2 n b m e1 e2).mono (fun o eo => ?_) (fun d ed => ?_) (.wr g6)⟩
    · rw [upd_ne (fun z => by subst z; exact g5 (List.mem_of_getElem? e1))]; exact eo
    · rw [upd_ne (fun z => by subst z; rw [g4] at ed; cases ed)]; exact ed
theorem disp_ok {es : List (Key × Ev)} {kvs : List (Key × D)} {s2 : Sta} (e : disp es s = .ok kvs s2) : ∃ st, dispGo (inSl [] s.sl) es [] s.st = some (kvs, st) ∧ s2 = ⟨s.sl, st⟩ := by
  unfold disp at e
  split at e
  · rename_i k st e1; cases e; exact ⟨st, e1, rfl⟩
  · cases e
theorem disp_ex {es : List (Key × Ev)} {c : Str} {fs : List P} (e : disp es s = .ex c fs) : False := by
  unfold disp at e; split at e <;> cases e
theorem noLin {K : PySem.W.Frag} {mg : Str → Option Value} {B : Ba} {p : Addr} (W : Wd K mg B w σ s H) (np : H p = none) : ∀ i : Nat, isLin s.sl[i]? = true → σ[i]? ≠ some (some (.ref p)) := fun j hj z => by
  obtain ⟨a, _, e1, h1, _⟩ := W.linAddr hj
  rw [e1] at z
  cases z
  exact h1.there np
variable {ks : List (Option Expr)} {vs : List Expr} {kes : List (Key × Ev)}
theorem df_disp (h : DPs X pos ks vs kes) (hall : ks.all (·.isSome) = true := by rfl) (hl : ks.length = vs.length := by rfl) (h0 : ks ≠ [] := by exact fun z => by cases z) (h15 : ks.length ≤ 15 := by decide) : DF X G (.Dict ks vs pos) (dispF kes) :=
  PEi (pe_disp h.pps hall hl h0 h15) fun σ H Q ⟨w, s, W, q⟩ => by
    unfold dispF bnd at q
    cases ed : disp kes s with
    | bad => rw [ed] at q; exact q.elim
    | ex c fs => exact (disp_ex ed).elim
    | ok kvs s2 =>
      rw [ed] at q
      simp only at q
      obtain ⟨st, e1, rfl⟩ := disp_ok ed
      split at q
      · rename_i xs ex
        split at q
        · rename_i hc
          exact disp_read W e1 hc.1 hc.2 fun p vs we He np x sn so hp nr ni t => q p we He (x.mono W.snd) (W.step x sn so) (.dic hp (t.td ex)) nr ni (W.ext.there p np) (show ∀ i : Nat, isLin s.sl[i]? = true → _ from noLin W np)
        · exact q.elim
      · exact q.elim
theorem de_dispS (h : DPs X pos ks vs kes) (hall : ks.all (·.isSome) = true := by rfl) (hl : ks.length = vs.length := by rfl) (h0 : ks ≠ [] := by exact fun z => by cases z) (h15 : ks.length ≤ 15 := by decide) : DE X G (.Dict ks vs pos) (dispS kes) :=
  PEi (pe_disp h.pps hall hl h0 h15) fun σ H Q ⟨w, s, W, q⟩ => by
    unfold dispS bnd at q
    cases ed : disp kes s with
    | bad => rw [ed] at q; exact q.elim
    | ex c fs => exact (disp_ex ed).elim
    | ok kvs s2 =>
      rw [ed] at q
      simp only at q
      obtain ⟨st, e1, rfl⟩ := disp_ok ed
      split at q
      · rename_i hc
        refine disp_read W e1 hc.1 hc.2 fun p vs we He np x sn so hp nr ni t => ?_
        have W2 := W.step x sn so
        unfold alloc at q
        cases st with
        | none => exact q.elim
        | some S =>
          obtain ⟨W3, hl3⟩ := W2.put (m := .dic kvs) (a := p) rfl (.dic hp t) nr ni (W.ext.there p np) (show ∀ i : Nat, isLin s.sl[i]? = true → _ from noLin W np)
          exact q (.ref p) (we.put p) He ((x.mono W.snd).trans .put) W3 (.loc hl3)
      · exact q.elim
def newDic : Sta → Res Lin := fun s => .ok (.dic []) s
def newDct : Sta → Res Lin := fun s => .ok (.dct []) s
theorem df_dic : DF X G (.Dict [] [] pos) newDic := PEi pe_dnewK fun σ H Q ⟨w, s, W, q⟩ => fun p np => PostF.new W np (fun mo => .dic upd_same .nil) q
theorem df_dct : DF X G (.Dict [] [] pos) newDct := PEi pe_dnewT fun σ H Q ⟨w, s, W, q⟩ => fun p np => PostF.new W np (fun mo => .dct upd_same .nil) q
theorem de_dicS : DE X G (.Dict [] [] pos) (alloc (.dic [])) := PEi pe_dnewK fun σ H Q ⟨w, s, W, q⟩ => fun p np => alloc_at W np (fun mo => .dic upd_same .nil) q
theorem de_dctS : DE X G (.Dict [] [] pos) (alloc (.dct [])) := PEi pe_dnewT fun σ H Q ⟨w, s, W, q⟩ => fun p np => alloc_at W np (fun mo => .dct upd_same .nil) q
end
end Dz
namespace Dz
open PySem PySem.Spec PyProof.Rows L2
section
variable {X : Cx} {G : Env} {σ σ' : L2.St} {w w1 w' : Wo} {H H1 H' : Hp} {s s1 s' : Sta} {K : PySem.W.Frag} {mg : Str → Option Value} {B : Ba}
variable {a b c e o key value : Expr} {es : List Expr} {f g h fk fv : Ev} {pos p2 p apos cpos spos pos' : Pos} {st : Stmt} {x : Str}
/-! ### d[k] = v -/
def putD {κ : Type} [DecidableEq κ] {α : Type} (kvs : List (κ × α)) (k : κ) (v : α) : List (κ × α) :=
  if (kvs.any fun kv => decide (kv.1 = k)) = true then kvs.map (fun kv => if kv.1 = k then (kv.1, v) else kv) else kvs ++ [(k, v)]
theorem TdK.vdx {κ : Type} {xs : List (κ × P)} {vs : List (κ × V)} (h : TdK K false H w.I xs vs) : VdK K H w (xs.map fun kv => (kv.1, .p kv.2)) vs := h.vd
theorem VdK.anyK {κ : Type} [DecidableEq κ] {kvs : List (κ × D)} {vs : List (κ × V)} (t : VdK K H w kvs vs) (k : κ) : (kvs.any fun kv => decide (kv.1 = k)) = vs.any fun kv => decide (kv.1 = k) := by
  induction t with
  | nil => rfl
  | cons _ _ ih => simp [ih]
theorem VdK.mapP {κ : Type} [DecidableEq κ] {kvs : List (κ × D)} {vs : List (κ × V)} (t : VdK K H w kvs vs) {k : κ} {d : D} {v : V} (h : Vd K H w d v) : VdK K H w (kvs.map fun kv => if kv.1 = k then (kv.1, d) else kv) (vs.map fun kv => if kv.1 = k then (kv.1, v) else kv) := by
  induction t with
  | nil => exact .nil
  | @cons k' x xs u us h1 _ ih =>
    rw [List.map_cons, List.map_cons]
    by_cases e : k' = k
    · rw [if_pos e, if_pos e]; exact .cons h ih
    · rw [if_neg e, if_neg e]; exact .cons h1 ih
theorem VdK.put {κ : Type} [DecidableEq κ] {kvs : List (κ × D)} {vs : List (κ × V)} (t : VdK K H w kvs vs) {k : κ} {d : D} {v : V} (h : Vd K H w d v) : VdK K H w (putD kvs k d) (putK vs k v) := by
  unfold putD putK
  rw [t.anyK k]
  split
  · exact t.mapP h
  · exact t.app (.cons h .nil)
theorem TdK.anyK {κ : Type} [DecidableEq κ] {J : Addr → Prop} {kvs : List (κ × P)} {vs : List (κ × V)} (t : TdK K false H J kvs vs) (k : κ) : (kvs.any fun kv => decide (kv.1 = k)) = vs.any fun kv => decide (kv.1 = k) := by
  induction t with
  | nil => rfl
  | cons _ _ ih => simp [ih]
theorem TdK.mapP {κ : Type} [DecidableEq κ] {J : Addr → Prop} {kvs : List (κ × P)} {vs : List (κ × V)} (t : TdK K false H J kvs vs) {k : κ} {d : P} {v : V} (h : Td K false H J d v) : TdK K false H J (kvs.map fun kv => if kv.1 = k then (kv.1, d) else kv) (vs.map fun kv => if kv.1 = k then (kv.1, v) else kv) := by
  induction t with
  | nil => exact .nil
  | @cons k' x xs u us h1 _ ih =>
    rw [List.map_cons, List.map_cons]
    by_cases e : k' = k
    · rw [if_pos e, if_pos e]; exact .cons h ih
    · rw [if_neg e, if_neg e]; exact .cons h1 ih
theorem TdK.app {κ : Type} {J : Addr → Prop} {a b : List (κ × P)} {c d : List (κ × V)} (t : TdK K false H J a c) (u : TdK K false H J b d) : TdK K false H J (a ++ b) (c ++ d) := by
  induction t with
  | nil => exact u
  | cons h _ ih => exact .cons h ih
theorem TdK.put {κ : Type} [DecidableEq κ] {J : Addr → Prop} {kvs : List (κ × P)} {vs : List (κ × V)} (t : TdK K false H J kvs vs) {k : κ} {d : P} {v : V} (h : Td K false H J d v) : TdK K false H J (putD kvs k d) (putK vs k v) := by
  unfold putD putK
  rw [t.anyK k]
  split
  · exact t.mapP h
  · exact t.app (.cons h .nil)
def putAt (q : Pk) (i : Nat) (k v : D) : Sta → Option Sta := fun s => match q, k with
  | .lin (.dic kvs), .p kx => match v with
    | .p x => (keyP kx).bind fun kk => if kvs.length < sizeLine then some ⟨s.sl.set i (.lin (.dic (putD kvs kk x))), s.st⟩ else none
    | _ => none
  | .lin (.dct kvs), .p kx => match v with
    | .p x => (keysP kx).bind fun kk => if kvs.length < sizeLine then some ⟨s.sl.set i (.lin (.dct (putD kvs kk x))), s.st⟩ else none
    | _ => none
  | .d (.loc n), .p kx => match s.st with
    | some S => match S[n]? with
      | some (.dic ds) => (keyP kx).bind fun kk => if ds.length < sizeLine then some ⟨s.sl, some (S.set n (.dic (putD ds kk v)))⟩ else none
      | some (.dct ds) => (keysP kx).bind fun kk => if ds.length < sizeLine then some ⟨s.sl, some (S.set n (.dct (putD ds kk v)))⟩ else none
      | _ => none
    | none => none
  | _, _ => none
theorem TdK.len {κ : Type} {J : Addr → Prop} {xs : List (κ × P)} {vs : List (κ × V)} (t : TdK K false H J xs vs) : xs.length = vs.length := by induction t <;> simp_all
/-- a name's slot, when it is a list or dict of its own -/
theorem pk_lin {i : Nat} {m : Lin} {s2 : Sta} (e : pk i s = .ok (.lin m) s2) : s.sl[i]? = some (.lin m) := by
  unfold pk at e
  split at e
  · cases e
  · rename_i m' e1; cases e; exact e1
  · cases e
theorem put_at {q : Pk} {i : Nat} {k v : D} {s2 : Sta} {vq vk vv : V} {R : Hp → Prop} (W : Wd X.K X.mg G.B w σ s H) (ev : σ[i]? = some (some vq)) (hl : ∀ m, q = .lin m → s.sl[i]? = some (.lin m)) (hq : RP X.K H w q vq) (hk : Vd X.K H w k vk) (hv : Vd X.K H w v vv) (e : putAt q i k v s = some s2)
    (h : ∀ H', Mono w H w H' → Wd X.K X.mg G.B w σ s2 H' → R H') : ∃ a H4, vq = .ref a ∧ DPut H a vk vv H4 ∧ R H4 := by
  unfold putAt at e
  split at e
  · rename_i kvs kx
    split at e
    · rename_i x
      obtain ⟨kk, ek, e2⟩ := Option.bind_eq_some_iff.mp e
      split at e2
      · rename_i hz
        cases e2
        obtain ⟨a, ea, l0, n1, n2, n3⟩ := W.sl i _ (hl _ rfl)
        obtain ⟨a', rfl, l⟩ := hq
        rw [ev] at ea
        cases ea
        cases l with
        | @dic _ vs h1 t =>
          cases hk with
          | p tk =>
            cases key_v tk ek
            cases hv with
            | p tv =>
              have mo : Mono w H w (upd H a (.dK (putK vs kk vv))) := .wr n2
              exact ⟨_, _, rfl, .k h1 (by rw [← t.len]; exact hz), h _ mo (W.wr (hl _ rfl) ev (.dic upd_same ((t.mono mo.imm).put (tv.mono mo.imm))))⟩
      · cases e2
    · cases e
  · rename_i kvs kx
    split at e
    · rename_i x
      obtain ⟨kk, ek, e2⟩ := Option.bind_eq_some_iff.mp e
      split at e2
      · rename_i hz
        cases e2
        obtain ⟨a, ea, l0, n1, n2, n3⟩ := W.sl i _ (hl _ rfl)
        obtain ⟨a', rfl, l⟩ := hq
        rw [ev] at ea
        cases ea
        cases l with
        | @dct _ vs h1 t =>
          cases hk with
          | p tk =>
            obtain ⟨c, rfl, hc⟩ := keysP_at tk ek
            cases hv with
            | p tv =>
              have mo : Mono w H w (upd H a (.dT (putK vs kk vv))) := .wr n2
              exact ⟨_, _, rfl, .t h1 hc (by rw [← t.len]; exact hz), h _ mo (W.wr (hl _ rfl) ev (.dct upd_same ((t.mono mo.imm).put (tv.mono mo.imm))))⟩
      · cases e2
    · cases e
  · rename_i n kx
    split at e
    · rename_i S es
      cases (show Vd X.K H w (.loc n) vq from hq) with
      | @loc _ a hn =>
        have so := W.sto
        rw [es] at so
        have n2 : ¬ w.I a := W.snd.ri a (List.mem_of_getElem? hn)
        cases hk with
        | p tk =>
          split at e
          · rename_i ds em
            obtain ⟨kk, ek, e2⟩ := Option.bind_eq_some_iff.mp e
            split at e2
            · rename_i hz
              cases e2
              cases key_v tk ek
              have mk := so.2 n a _ hn em
              have hno := mk.noOwn
              cases mk with
              | @dic _ vs h1 t =>
                obtain ⟨W', mo⟩ := W.wrS (u := .dK (putK vs kk vv)) (m' := .dic (putD ds kk v)) es hn em (.dic upd_same ((t.mono (.wr n2)).put (hv.mono (.wr n2)))) hno
                exact ⟨a, _, rfl, .k h1 (by rw [← t.len]; exact hz), h _ mo W'⟩
            · cases e2
          · rename_i ds em
            obtain ⟨kk, ek, e2⟩ := Option.bind_eq_some_iff.mp e
            split at e2
            · rename_i hz
              cases e2
              obtain ⟨c, rfl, hc⟩ := keysP_at tk ek
              have mk := so.2 n a _ hn em
              have hno := mk.noOwn
              cases mk with
              | @dct _ vs h1 t =>
                obtain ⟨W', mo⟩ := W.wrS (u := .dT (putK vs kk vv)) (m' := .dct (putD ds kk v)) es hn em (.dct upd_same ((t.mono (.wr n2)).put (hv.mono (.wr n2)))) hno
                exact ⟨a, _, rfl, .t h1 hc (by rw [← t.len]; exact hz), h _ mo W'⟩
            · cases e2
          · cases e
    · cases e
  · cases e
def putV (i : Nat) (fk fv : Ev) : Ex := bndS fv fun v => bndS (pk i) fun _ => bndS fk fun k => bndS (pk i) fun q s => match putAt q i k v s with
  | some s' => .nx s'
  | none => .bad
theorem pkS {i : Nat} {k : Pk → Ex} {D : Ends} (W : Wd X.K X.mg G.B w σ s H) (h : PostS X G w H (bndS (pk i) k s) D) : ∃ q v, σ[i]? = some (some v) ∧ RP X.K H w q v ∧ (∀ m, q = .lin m → s.sl[i]? = some (.lin m)) ∧ PostS X G w H (k q s) D := by
  unfold bndS at h
  cases ep : pk i s with
  | bad => rw [ep] at h; exact h.elim
  | ex c fs => exact (pk_ex ep).elim
  | ok q s2 =>
    obtain ⟨rfl, v, ev, rk⟩ := pk_at W ep
    rw [ep] at h
    exact ⟨q, v, ev, rk, fun m em => by subst em; exact pk_lin ep, h⟩
theorem ds_putV {i : Nat} {px : Pos} (hu : X.A.units + 64 < cLine) (hk : DE X G key fk) (hv : DE X G value fv) (hN : X.N[i]? = some x := by rfl) (hvi : Vis X.env.scope x := by first | exact Or.inl rfl | exact Or.inr (Or.inl rfl) | exact Or.inr (Or.inr rfl))
    (hd : (x == ("__debug__" : Str)) = false := by decide) (hcd : (x == ("__classdict__" : Str)) = false := by decide) (hs : swapsWith value (some (.Subscript (.Name x px) key pos')) pos.line X.env = pure false := by rfl) : DS X G (.Assign [.Subscript (.Name x px) key pos'] value pos) (putV i fk fv) :=
  PSi (ps_dput (by omega) (pe_var (i := i) hN hvi hd hcd) hk hv hs) fun D σ H ⟨w, s, W, h⟩ => ⟨w, s, W, PostS.bind h fun v s1 vv w1 H1 m1 W1 r1 h => by
    obtain ⟨q0, v0, ev, _, _, h⟩ := pkS W1 h
    refine ⟨v0, ev, w1, s1, W1, PostS.bind h fun k s2 vk w2 H2 m2 W2 r2 h => ?_⟩
    obtain ⟨q, v1, ev1, rq, hl, h⟩ := pkS W2 h
    rw [ev] at ev1
    cases ev1
    split at h
    · rename_i s3 es
      exact put_at W2 ev hl rq r2 (Vd.mono m2 r1) es fun H' mo W' => h σ w2 H' mo W'
    · exact h.elim⟩
end
end Dz
namespace Dz
open PySem PySem.Spec PyProof.Rows L2
section
variable {X : Cx} {G : Env} {σ σ' : L2.St} {w w1 w' : Wo} {H H1 H' : Hp} {s s1 s' : Sta} {K : PySem.W.Frag} {mg : Str → Option Value} {B : Ba}
variable {a b c e o key value : Expr} {es : List Expr} {f g h fk fv : Ev} {pos p2 p apos cpos spos pos' px : Pos} {st : Stmt} {x : Str}
/-! ### xs.extend(e), xs.pop() -/
def extAt (q : Pk) (i : Nat) (d : D) : Sta → Option Sta := fun s => match q, d with
  | .lin (.lst xs), .p (.lst ys) => if xs.length + ys.length ≤ sizeLine then some ⟨s.sl.set i (.lin (.lst (xs ++ ys))), s.st⟩ else none
  | .d (.loc n), .p (.lst ys) => match s.st with
    | some S => match S[n]? with
      | some (.lst ds) => if ds.length + ys.length ≤ sizeLine then some ⟨s.sl, some (S.set n (.lst (ds ++ ys.map .p)))⟩ else none
      | _ => none
    | none => none
  | _, _ => none
theorem ext_at {q : Pk} {i : Nat} {d : D} {v u : V} {Q : VK} {s2 : Sta} (W : Wd X.K X.mg G.B w σ s H) (ev : σ[i]? = some (some v)) (hl : ∀ m, q = .lin m → s.sl[i]? = some (.lin m)) (hq : RP X.K H w q v) (hd : Vd X.K H w d u) (e : extAt q i d s = some s2)
    (h : ∀ H', Mono w H w H' → Wd X.K X.mg G.B w σ s2 H' → Q .non H') : rExtend v [u] H Q := by
  unfold extAt at e
  split at e
  · split at e
    · rename_i hz
      cases e
      obtain ⟨a, ea, l0, n1, n2, n3⟩ := W.sl i _ (hl _ rfl)
      obtain ⟨a', rfl, l⟩ := hq
      rw [ev] at ea
      cases ea
      cases l with
      | @lst _ vs h1 t =>
        cases hd with
        | p td =>
          obtain ⟨b, us, rfl, h2, t2⟩ := td.lstAt
          have mo : Mono w H w (upd H _ (.lst (vs ++ us))) := .wr n2
          exact ⟨_, b, vs, us, rfl, rfl, h1, h2, by rw [← t.len, ← t2.len]; exact hz, h _ mo (W.wr (hl _ rfl) ev (.lst upd_same ((t.mono mo.imm).app (t2.mono mo.imm))))⟩
    · cases e
  · rename_i n ys
    split at e
    · rename_i S es
      split at e
      · rename_i ds em
        split at e
        · rename_i hz
          cases e
          cases (show Vd X.K H w (.loc n) v from hq) with
          | @loc _ a hn =>
            have so := W.sto
            rw [es] at so
            have mk := so.2 n a _ hn em
            have hno := mk.noOwn
            cases mk with
            | @lst _ vs h1 t =>
              cases hd with
              | p td =>
                obtain ⟨b, us, rfl, h2, t2⟩ := td.lstAt
                have n2 : ¬ w.I a := W.snd.ri a (List.mem_of_getElem? hn)
                obtain ⟨W', mo⟩ := W.wrS (u := .lst (vs ++ us)) (m' := .lst (ds ++ ys.map .p)) es hn em (.lst upd_same ((t.mono (.wr n2)).app ((t2.vd (w := w)).mono (.wr n2)))) hno
                exact ⟨a, b, vs, us, rfl, rfl, h1, h2, by rw [← t.len, ← t2.len]; exact hz, h _ mo W'⟩
        · cases e
      · cases e
    · cases e
  · cases e
def extV (i : Nat) (g : Ev) : Ex := bndS (pk i) fun k s => if isLst k s = true ∧ (seqPk k s).isSome = true then bndS g (fun d => bndS (pk i) fun k' s => match extAt k' i d s with
  | some s' => .nx s'
  | none => .bad) s else .bad
theorem ds_extV {i : Nat} (hb : DE X G e g) (hN : X.N[i]? = some x := by rfl) (hv : Vis X.env.scope x := by first | exact Or.inl rfl | exact Or.inr (Or.inl rfl) | exact Or.inr (Or.inr rfl))
    (hd : (x == ("__debug__" : Str)) = false := by decide) (hcd : (x == ("__classdict__" : Str)) = false := by decide)
    (hbase : attributeBase (.Name x px) "extend" X.env (eval (.Name x px) X.env) = eval (.Name x px) X.env := by rfl)
    (hfew : ((backTo cpos (starEach [e] X.env)).all (fun x => !x.1) && (backToKw cpos (keywordEach [] X.env)).all (fun x => x.1.isSome) && decide ([e].length + ([] : List Keyword).length + (if ([] : List Keyword).isEmpty then 0 else 1) < 30)) = true := by rfl)
    (hline : (apos.endLine == cpos.line) = true := by rfl) (h1 : starEach [e] X.env = (false, eval e X.env) :: starEach [] X.env := by rfl) (hplain : (backTo cpos (starEach [] X.env)).any (·.1) = false := by rfl)
    (hs : swapsWith (.Call (.Attribute (.Name x px) "extend" apos) [e] [] cpos) none pos.line X.env = pure false := by rfl) : DS X G (.Expr (.Call (.Attribute (.Name x px) "extend" apos) [e] [] cpos) pos) (extV i g) :=
  PSi (ps_expr (pe_bm PySem.F.plainAttrs_list PySem.F.slot_list_extend PySem.F.type_list_extend mt_extend (pe_var (i := i) hN hv hd hcd) (pa_cons hb pa_nil h1) hbase hfew hline h1 hplain) hs) fun D σ H ⟨w, s, W, h⟩ => by
    obtain ⟨q0, v0, ev, r0, _, h⟩ := pkS W h
    split at h
    · rename_i hl
      obtain ⟨ds, eds⟩ := Option.isSome_iff_exists.mp hl.2
      refine ⟨v0, ev, tyL_at W r0 hl.1 ds eds, w, s, W, PostS.bind h fun d s1 u w1 H1 m1 W1 r1 h => ?_⟩
      obtain ⟨q, v1, ev1, rq, hl1, h⟩ := pkS W1 h
      rw [ev] at ev1
      cases ev1
      split at h
      · rename_i s3 es
        exact ext_at (Q := fun _ H' => D.nx σ H') W1 ev hl1 rq r1 es fun H' mo W' => h σ w1 H' mo W'
      · exact h.elim
    · exact h.elim
def popV (i : Nat) : Ev := fun s => match s.sl[i]? with
  | some (.lin (.lst xs)) => match xs[xs.length - 1]? with
    | some x => .ok (.p x) ⟨s.sl.set i (.lin (.lst xs.dropLast)), s.st⟩
    | none => .bad
  | some (.v (.loc n)) => match s.st with
    | some S => match S[n]? with
      | some (.lst ds) => match ds[ds.length - 1]? with
        | some d => .ok d ⟨s.sl, some (S.set n (.lst ds.dropLast))⟩
        | none => .bad
      | _ => .bad
    | none => .bad
  | _ => .bad
theorem TdL.dropLast {J : Addr → Prop} {xs : List P} {vs : List V} (t : TdL K false H J xs vs) : TdL K false H J xs.dropLast vs.dropLast := by
  rw [List.dropLast_eq_take, List.dropLast_eq_take, ← t.len]
  exact t.take _
theorem VdL.take : ∀ {xs : List D} {vs : List V} (n : Nat), VdL K H w xs vs → VdL K H w (xs.take n) (vs.take n)
  | _, _, 0, _ => .nil
  | _, _, n + 1, .nil => .nil
  | _, _, n + 1, .cons a t => .cons a (VdL.take n t)
theorem VdL.dropLast {xs : List D} {vs : List V} (t : VdL K H w xs vs) : VdL K H w xs.dropLast vs.dropLast := by
  rw [List.dropLast_eq_take, List.dropLast_eq_take, ← t.len]
  exact t.take _
theorem de_popV {i : Nat} (hN : X.N[i]? = some x := by rfl) (hv : Vis X.env.scope x := by first | exact Or.inl rfl | exact Or.inr (Or.inl rfl) | exact Or.inr (Or.inr rfl))
    (hd : (x == ("__debug__" : Str)) = false := by decide) (hcd : (x == ("__classdict__" : Str)) = false := by decide)
    (hbase : attributeBase (.Name x px) "pop" X.env (eval (.Name x px) X.env) = eval (.Name x px) X.env := by rfl) (hline : (apos.endLine == cpos.line) = true := by rfl) : DE X G (.Call (.Attribute (.Name x px) "pop" apos) [] [] cpos) (popV i) :=
  PEi (pe_bm0 PySem.F.plainAttrs_list PySem.F.slot_list_pop PySem.F.type_list_pop mt_pop (pe_var (i := i) hN hv hd hcd) hbase hline) fun σ H Q ⟨w, s, W, h⟩ => by
    unfold popV at h
    split at h
    · rename_i xs e
      split at h
      · rename_i y ey
        obtain ⟨a, ea, l, n1, n2, n3⟩ := W.sl i _ e
        cases l with
        | @lst _ vs h1 t =>
          obtain ⟨v, e1, tv⟩ := t.at ey
          have mo : Mono w H w (upd H a (.lst vs.dropLast)) := .wr n2
          refine ⟨.ref a, ea, .inl ⟨rfl, vs, .of h1⟩, a, vs, v, rfl, rfl, h1, by rw [← t.len]; exact e1, ?_⟩
          exact h v w _ mo (W.wr e ea (.lst upd_same (t.mono mo.imm).dropLast)) (.p (tv.mono mo.imm))
      · exact h.elim
    · rename_i n e
      obtain ⟨v0, ev, hv0⟩ := W.sl i _ e
      split at h
      · rename_i S es
        split at h
        · rename_i ds em
          split at h
          · rename_i d ed
            cases hv0 with
            | @loc _ a hn =>
              have so := W.sto
              rw [es] at so
              have mk := so.2 n a _ hn em
              have hno := mk.noOwn
              cases mk with
              | @lst _ vs h1 t =>
                have n2 : ¬ w.I a := W.snd.ri a (List.mem_of_getElem? hn)
                obtain ⟨v, e1, tv⟩ := t.at ed
                obtain ⟨W', mo⟩ := W.wrS (u := .lst vs.dropLast) (m' := .lst ds.dropLast) es hn em (.lst upd_same (t.mono (.wr n2)).dropLast) hno
                refine ⟨.ref a, ev, .inl ⟨rfl, vs, .of h1⟩, a, vs, v, rfl, rfl, h1, by rw [← t.len]; exact e1, ?_⟩
                exact h v w _ mo W' (tv.mono mo)
          · exact h.elim
        · exact h.elim
      · exact h.elim
    · exact h.elim
/-! ### xs[i] = v -/
def lsetAt (q : Pk) (i : Nat) (k v : D) : Sta → Option Sta := fun s => match q, k with
  | .lin (.lst xs), .p (.int n) => match v, ixN xs.length n with
    | .p x, some j => some ⟨s.sl.set i (.lin (.lst (xs.set j x))), s.st⟩
    | _, _ => none
  | .d (.loc m), .p (.int n) => match s.st with
    | some S => match S[m]? with
      | some (.lst ds) => (ixN ds.length n).map fun j => ⟨s.sl, some (S.set m (.lst (ds.set j v)))⟩
      | _ => none
    | none => none
  | _, _ => none
theorem TdL.set {J : Addr → Prop} {x : P} {v : V} (h : Td K false H J x v) : ∀ {xs : List P} {vs : List V} (j : Nat), TdL K false H J xs vs → TdL K false H J (xs.set j x) (vs.set j v)
  | _, _, _, .nil => .nil
  | _, _, 0, .cons _ t => .cons h t
  | _, _, j + 1, .cons a t => .cons a (TdL.set h j t)
theorem VdL.set {x : D} {v : V} (h : Vd K H w x v) : ∀ {xs : List D} {vs : List V} (j : Nat), VdL K H w xs vs → VdL K H w (xs.set j x) (vs.set j v)
  | _, _, _, .nil => .nil
  | _, _, 0, .cons _ t => .cons h t
  | _, _, j + 1, .cons a t => .cons a (VdL.set h j t)
theorem lset_at {q : Pk} {i : Nat} {k v : D} {s2 : Sta} {vq vk vv : V} {R : Hp → Prop} (W : Wd X.K X.mg G.B w σ s H) (ev : σ[i]? = some (some vq)) (hl : ∀ m, q = .lin m → s.sl[i]? = some (.lin m)) (hq : RP X.K H w q vq) (hk : Vd X.K H w k vk) (hv : Vd X.K H w v vv) (e : lsetAt q i k v s = some s2)
    (h : ∀ H', Mono w H w H' → Wd X.K X.mg G.B w σ s2 H' → R H') : rSetL vq vk vv H R := by
  unfold lsetAt at e
  split at e
  · rename_i xs n
    split at e
    · rename_i x j ej
      cases e
      obtain ⟨a, ea, l0, n1, n2, n3⟩ := W.sl i _ (hl _ rfl)
      obtain ⟨a', rfl, l⟩ := hq
      rw [ev] at ea
      cases ea
      cases l with
      | @lst _ vs h1 t =>
        cases hk with
        | p tk =>
          cases tk
          cases hv with
          | p tv =>
            have mo : Mono w H w (upd H _ (.lst (vs.set j vv))) := .wr n2
            exact ⟨_, vs, n, j, rfl, rfl, h1, by rw [← t.len]; exact ej, h _ mo (W.wr (hl _ rfl) ev (.lst upd_same (TdL.set (tv.mono mo.imm) j (t.mono mo.imm))))⟩
    · cases e
  · rename_i m n
    split at e
    · rename_i S es
      split at e
      · rename_i ds em
        obtain ⟨j, ej, rfl⟩ := Option.map_eq_some_iff.mp e
        cases (show Vd X.K H w (.loc m) vq from hq) with
        | @loc _ a hn =>
          have so := W.sto
          rw [es] at so
          have mk := so.2 m a _ hn em
          have hno := mk.noOwn
          cases mk with
          | @lst _ vs h1 t =>
            cases hk with
            | p tk =>
              cases tk
              have n2 : ¬ w.I a := W.snd.ri a (List.mem_of_getElem? hn)
              obtain ⟨W', mo⟩ := W.wrS (u := .lst (vs.set j vv)) (m' := .lst (ds.set j v)) es hn em (.lst upd_same (VdL.set (hv.mono (.wr n2)) j (t.mono (.wr n2)))) hno
              exact ⟨a, vs, n, j, rfl, rfl, h1, by rw [← t.len]; exact ej, h _ mo W'⟩
      · cases e
    · cases e
  · cases e
def lsetV (i : Nat) (fk fv : Ev) : Ex := bndS fv fun v => bndS (pk i) fun _ => bndS fk fun k => bndS (pk i) fun q s => match lsetAt q i k v s with
  | some s' => .nx s'
  | none => .bad
theorem ds_lsetV {i : Nat} (hk : DE X G key fk) (hv : DE X G value fv) (hN : X.N[i]? = some x := by rfl) (hvi : Vis X.env.scope x := by first | exact Or.inl rfl | exact Or.inr (Or.inl rfl) | exact Or.inr (Or.inr rfl))
    (hd : (x == ("__debug__" : Str)) = false := by decide) (hcd : (x == ("__classdict__" : Str)) = false := by decide)
    (ha : ∀ v, assign (.Subscript (.Name x px) key pos') X.env v = (do
      let ov ← holding [v] (eval (.Name x px) X.env)
      let iv ← holding [v, ov] (eval key X.env)
      standAt pos'
      holding [v, ov, iv] (setItem ov iv v)
      release [v, ov, iv] []) := by intro _; rfl)
    (hs : swapsWithSole [.Subscript (.Name x px) key pos'] value pos.line X.env = pure false := by rfl) (hw : swappedStores [.Subscript (.Name x px) key pos'] value X.env = pure none := by rfl)
    (h1 : (assignEach [.Subscript (.Name x px) key pos'] X.env).map (·.2) = [assign (.Subscript (.Name x px) key pos') X.env] := by rfl) : DS X G (.Assign [.Subscript (.Name x px) key pos'] value pos) (lsetV i fk fv) :=
  PSi (ps_asg hv (pg_sub (pe_var (i := i) hN hvi hd hcd) hk set_list ha) hs hw h1) fun D σ H ⟨w, s, W, h⟩ => ⟨w, s, W, PostS.bind h fun v s1 vv w1 H1 m1 W1 r1 h => by
    obtain ⟨q0, v0, ev, _, _, h⟩ := pkS W1 h
    refine ⟨v0, ev, w1, s1, W1, PostS.bind h fun k s2 vk w2 H2 m2 W2 r2 h => ?_⟩
    obtain ⟨q, v1, ev1, rq, hl, h⟩ := pkS W2 h
    rw [ev] at ev1
    cases ev1
    split at h
    · rename_i s3 es
      exact lset_at W2 ev hl rq r2 (Vd.mono m2 r1) es fun H' mo W' => h σ w2 H' mo W'
    · exact h.elim⟩
end
end Dz
namespace Dz
open PySem PySem.Spec PyProof.Rows L2
section
variable {X : Cx} {G : Env} {σ σ' σb : L2.St} {w w1 w' wb e1 : Wo} {H H1 H' Hb E1 : Hp} {s s1 s' : Sta} {K : PySem.W.Frag} {mg : Str → Option Value} {B : Ba}
variable {a b c e o elt tg iter tg1 iter1 : Expr} {es ifs ifs1 : List Expr} {f g h fe : Ev} {pos p2 p apos cpos spos : Pos} {rest : List Expr} {st : Stmt} {x : Str}
/-! ### list comprehensions with two for -/
theorem it_any {J : It} {n : Nat} {Gs : Hp → Prop} {Y : Nat → Hp → V → Hp → Prop} (w : Walk J n Gs Y) {T : V → Hp → (Hp → Prop) → Prop} {H4 : Hp} {Qd : Hp → Prop} (Pv : Nat → Hp → Prop) (h0 : Pv 0 H4) (hG : ∀ i H, i ≤ n → Pv i H → Gs H)
    (hs : ∀ i x H H', i < n → Pv i H → Y i H x H' → T x H' (Pv (i + 1))) (hd : ∀ H, Pv n H → Qd H) :
    ∃ W : Nat → Nat → Hp → Prop, (∃ m, W 0 m H4) ∧ ∀ i m H, W i m H →
      (J.stop i H ∧ Qd H) ∨ (J.go i H ∧ ∃ Nx : Hp → Prop, (∀ H', Nx H' → ∃ m', m' < m ∧ W (i + 1) m' H') ∧ ∀ x H', J.yld i H x H' → T x H' Nx) := by
  refine ⟨fun i m H => m = n - i ∧ i ≤ n ∧ Pv i H, ⟨n, by simp, Nat.zero_le _, h0⟩, ?_⟩
  rintro i m H ⟨rfl, hi, p⟩
  have q := hG i H hi p
  by_cases hlt : i < n
  · refine .inr ⟨w.goes i H hlt q, Pv (i + 1), fun H' p' => ⟨n - (i + 1), by omega, rfl, hlt, p'⟩, fun x H' y => hs i x H H' hlt p (w.yields i H x H' hlt q y)⟩
  · have e : i = n := by omega
    subst e
    exact .inl ⟨w.stops H q, hd H p⟩
/-- what holds between rounds: the new list at D holds acc -/
structure Hold (X : Cx) (e1 : Wo) (E1 : Hp) (wb : Wo) (Hb : Hp) (D : Addr) (acc : List P) (st : Option (List MO)) (vs : List V) (w : Wo) (H : Hp) : Prop where
  ext : Ext e1 E1 w H
  mono : Mono wb Hb w H
  snd : Sound w H
  sto : StOk X.K X.mg H w st
  at' : H D = some (.lst vs)
  tl : TdL X.K false H w.I acc vs
  nr : D ∉ w.ρ
  ni : ¬ w.I D
theorem Hold.go {D : Addr} {acc : List P} {st st' : Option (List MO)} {vs : List V} (h : Hold X e1 E1 wb Hb D acc st vs w H) (x : Ext w H w' H') (sn : Sound w' H') (so : StOk X.K X.mg H' w' st') : Hold X e1 E1 wb Hb D acc st' vs w' H' where
  ext := h.ext.trans x
  mono := h.mono.trans (x.mono h.snd)
  snd := sn
  sto := so
  at' := x.keep _ _ h.at' h.nr
  tl := h.tl.mono (x.mono h.snd).imm
  nr := fun z => by
    rcases x.newr _ z with z | z
    · exact h.nr z
    · rw [h.at'] at z; cases z
  ni := fun z => by
    rcases x.newi _ z with z | z
    · exact h.ni z
    · rw [h.at'] at z; cases z
theorem Hold.push {D : Addr} {acc : List P} {st : Option (List MO)} {vs : List V} {y : P} {v : V} (h : Hold X e1 E1 wb Hb D acc st vs w H) (nD : E1 D = none) (ty : Td X.K false H w.I y v) : Hold X e1 E1 wb Hb D (acc ++ [y]) st (vs ++ [v]) w (upd H D (.lst (vs ++ [v]))) where
  ext := h.ext.updF nD
  mono := h.mono.trans (.wr h.ni (fun _ z => by rw [h.at'] at z; cases z))
  snd := h.snd.updF
  sto := h.sto.updF h.at' h.nr h.ni
  at' := upd_same
  tl := (h.tl.mono (Mono.wr (u := .lst (vs ++ [v])) h.ni (fun _ z => by rw [h.at'] at z; cases z)).imm).snoc (ty.mono (Mono.wr (u := .lst (vs ++ [v])) h.ni (fun _ z => by rw [h.at'] at z; cases z)).imm)
  nr := h.nr
  ni := h.ni
def PvA (X : Cx) (e1 : Wo) (E1 : Hp) (wb : Wo) (Hb : Hp) (D : Addr) (go : List P → Option (List MO) → Prop) (H : Hp) : Prop := ∃ w acc st vs, Hold X e1 E1 wb Hb D acc st vs w H ∧ go acc st
section
variable {own : List Nat} {t : Tg} {tt : Sta → Res Bool} {gg : TG} {D : Addr} {sl : List Sl} {Y : Nat → Hp → V → Hp → Prop} {r : List P × Option (List MO)}
/-- the beginning of a round -/
theorem rd_start {i : Nat} {ds : List Dz.D} {x : V} {acc : List P} {st : Option (List MO)} {vs : List V} (hsl : ∀ (j : Nat) (d : Dz.D), sl[j]? = some (.v d) → ∃ v, σb[j]? = some (some v) ∧ Vd X.K Hb wb d v) (hl : sl.length ≤ σb.length)
    (hY : ∀ i H0 x H1 w0, i < ds.length → Mono wb Hb w0 H0 → Sound w0 H0 → Y i H0 x H1 → (H1 = H0 ∨ ∃ T o, H0 T = none ∧ H1 = upd H0 T o) ∧ ∀ w1, Mono w0 H0 w1 H1 → (∀ T, H0 T = none → H1 T ≠ none → w1.I T) → ∃ d, ds[i]? = some d ∧ Vd X.K H1 w1 d x)
    (hi : i < ds.length) (h : Hold X e1 E1 wb Hb D acc st vs w H) (y : Y i H x H1) : ∃ w2 d, Wd X.K X.mg ⟨w, H⟩ w2 (wipe σb own) ⟨inSl own sl, st⟩ H1 ∧ Vd X.K H1 w2 d x ∧ ds.drop i = d :: ds.drop (i + 1) := by
  have Wi : Wd X.K X.mg ⟨w, H⟩ w (wipe σb own) ⟨inSl own sl, st⟩ H := in_start h.snd h.sto hl fun j d ej => by
    obtain ⟨v, ev, hv⟩ := hsl j d ej
    exact ⟨v, ev, hv.mono h.mono⟩
  obtain ⟨w2, d, m2, W2, ed, vd⟩ := yield_at (G := G0 w H) (J := Itr 0 0) (Y := Y) Wi (hY i H x H1 w hi h.mono h.snd y)
  refine ⟨w2, d, W2, vd, ?_⟩
  rw [List.drop_eq_getElem_cons hi]
  rw [List.getElem?_eq_getElem hi] at ed
  rw [Option.some.inj ed]
/-- a round -/
theorem lc_turn {ds : List Dz.D} {fe : Ev} (hr : RawG X own gg t) (nD : E1 D = none) (hsl : ∀ (j : Nat) (d : Dz.D), sl[j]? = some (.v d) → ∃ v, σb[j]? = some (some v) ∧ Vd X.K Hb wb d v) (hl : sl.length ≤ σb.length)
    (hY : ∀ i H0 x H1 w0, i < ds.length → Mono wb Hb w0 H0 → Sound w0 H0 → Y i H0 x H1 → (H1 = H0 ∨ ∃ T o, H0 T = none ∧ H1 = upd H0 T o) ∧ ∀ w1, Mono w0 H0 w1 H1 → (∀ T, H0 T = none → H1 T ≠ none → w1.I T) → ∃ d, ds[i]? = some d ∧ Vd X.K H1 w1 d x)
    (i : Nat) (x : V) (H H3 : Hp) (hi : i < ds.length) (hp : PvA X e1 E1 wb Hb D (fun acc st => lcGo (inSl own sl) t tt fe (ds.drop i) acc st = some r) H) (y : Y i H x H3) :
    gg x (wipe σb own) H3 fun σ2 H2 => wipe σ2 own = wipe σb own ∧ tT0 X tt σ2 H2 fun b H3 =>
      if b = true then tE0 X fe σ2 H3 fun y H4 => ∃ acc, H4 D = some (.lst acc) ∧ acc.length < sizeLine ∧ PvA X e1 E1 wb Hb D (fun acc st => lcGo (inSl own sl) t tt fe (ds.drop (i + 1)) acc st = some r) (upd H4 D (.lst (acc ++ [y])))
      else PvA X e1 E1 wb Hb D (fun acc st => lcGo (inSl own sl) t tt fe (ds.drop (i + 1)) acc st = some r) H3 := by
  obtain ⟨wi, acc, st, vs, ho, go⟩ := hp
  obtain ⟨w2, d, W2, vd, ed⟩ := rd_start (own := own) hsl hl hY hi ho y
  rw [ed, lcGo] at go
  cases et : t d ⟨inSl own sl, st⟩ with
  | none => simp only [et] at go; cases go
  | some s1 =>
    simp only [et] at go
    refine hr _ _ _ _ _ _ _ _ _ W2 vd et fun σ3 hw3 W3 => ⟨hw3.trans wipe_wipe, wi, H, w2, s1, W3, ?_⟩
    cases ett : tt s1 with
    | bad => simp only [ett] at go; cases go
    | ex c fs => simp only [ett] at go; cases go
    | ok k s2 =>
      simp only [ett] at go
      intro k' w4 H4 m4 W4 rk
      cases (show k = k' from rk)
      cases k with
      | false =>
        simp only at go
        rw [if_neg Bool.false_ne_true]
        exact ⟨w4, acc, s2.st, vs, ho.go W4.ext W4.snd W4.sto, go⟩
      | true =>
        simp only at go
        rw [if_pos rfl]
        refine ⟨wi, H, w4, s2, W4, ?_⟩
        cases ee : fe s2 with
        | bad => rw [ee] at go; cases go
        | ex c fs => rw [ee] at go; cases go
        | ok y s3 =>
          rw [ee] at go
          cases y with
          | p yp =>
            simp only at go
            split at go
            · rename_i hz
              intro v w5 H5 m5 W5 rv
              have h5 := ho.go W5.ext W5.snd W5.sto
              cases (show Vd X.K H5 w5 (.p yp) v from rv) with
              | p ty => exact ⟨vs, h5.at', by rw [← ho.tl.len]; exact hz, w5, acc ++ [yp], s3.st, vs ++ [v], h5.push nD ty, go⟩
            · cases go
          | _ => cases go
end
/-- one round of the outer for after the other -/
def lcGo2 (sl : List Sl) (t : Tg) (tt : Sta → Res Bool) (fi1 : Sta → Res (List D)) (own1 : List Nat) (t1 : Tg) (tt1 : Sta → Res Bool) (fe : Ev) : List D → List P → Option (List MO) → Option (List P × Option (List MO))
  | [], acc, st => some (acc, st)
  | d :: ds, acc, st => match t d ⟨sl, st⟩ with
    | some s1 => match tt s1 with
      | .ok true s2 => match fi1 s2 with
        | .ok ds1 s3 => match lcGo (inSl own1 s3.sl) t1 tt1 fe ds1 acc s3.st with
          | some (acc', st') => lcGo2 sl t tt fi1 own1 t1 tt1 fe ds acc' st'
          | none => none
        | _ => none
      | .ok false s2 => lcGo2 sl t tt fi1 own1 t1 tt1 fe ds acc s2.st
      | _ => none
    | none => none
def lcF2 (fi : Sta → Res (List D)) (own : List Nat) (t : Tg) (tt : Sta → Res Bool) (fi1 : Sta → Res (List D)) (own1 : List Nat) (t1 : Tg) (tt1 : Sta → Res Bool) (fe : Ev) : Sta → Res Lin := bnd fi fun ds s => match lcGo2 (inSl own s.sl) t tt fi1 own1 t1 tt1 fe ds [] s.st with
  | some (xs, st) => .ok (.lst xs) ⟨s.sl, st⟩
  | none => .bad
def tI0 (X : Cx) (f : Sta → Res (List D)) : TI := fun σ H R => ∃ w0 H0, tI X (G0 w0 H0) f σ H R
theorem lc2_read {own own1 : List Nat} {fi fi1 : Sta → Res (List D)} {t t1 : Tg} {tt tt1 : Sta → Res Bool} {gg gg1 : TG} (hr : RawG X own gg t) (hr1 : RawG X own1 gg1 t1) {Q : VK} (h0 : tF X G (lcF2 fi own t tt fi1 own1 t1 tt1 fe) σ H Q) :
    tLc2 (tI X G fi) gg (tT0 X tt) (tI0 X fi1) gg1 (tT0 X tt1) (tE0 X fe) own own1 σ H Q := by
  obtain ⟨w, s, W, h⟩ := h0
  refine ⟨w, s, W, ?_⟩
  unfold lcF2 bnd at h
  cases ef : fi s with
  | bad => rw [ef] at h; exact h.elim
  | ex c fs => rw [ef] at h; exact h
  | ok ds s' =>
    rw [ef] at h
    simp only at h
    intro w1 H1 J m1 W1 wk D nD
    have h := PostF.at m1 h
    cases el : lcGo2 (inSl own s'.sl) t tt fi1 own1 t1 tt1 fe ds [] s'.st with
    | none => rw [el] at h; exact h.elim
    | some r =>
      obtain ⟨xs, stE⟩ := r
      rw [el] at h
      obtain ⟨Gs, Y, wlk, hG, hY⟩ := wk
      have b0 := W1.bare (o := .lst []) nD
      have x0 : Ext w1 H1 w1 (upd H1 D (.lst [])) := Ext.refl.updF nD
      refine it_any wlk (fun i H => PvA X w1 H1 w1 H1 D (fun acc st => lcGo2 (inSl own s'.sl) t tt fi1 own1 t1 tt1 fe (ds.drop i) acc st = some (xs, stE)) H)
        ⟨w1, [], s'.st, [], ⟨x0, x0.mono W1.snd, b0.2.1.snd, b0.2.1.sto, upd_same, .nil, b0.2.2.1, b0.2.2.2.1⟩, by rw [List.drop_zero]; exact el⟩ (fun i H _ ⟨wi, _, _, _, x, _⟩ => hG wi H x.mono) ?_ ?_
      · intro i x H2 H3 hi hp y
        obtain ⟨wi, acc, st, vs, ho, go⟩ := hp
        obtain ⟨w2, d, W2, vd, ed⟩ := rd_start (own := own) (fun j d ej => W1.sl j _ ej) W1.len hY hi ho y
        rw [ed, lcGo2] at go
        cases et : t d ⟨inSl own s'.sl, st⟩ with
        | none => simp only [et] at go; cases go
        | some s1 =>
          simp only [et] at go
          refine hr _ _ _ _ _ _ _ _ _ W2 vd et fun σ3 hw3 W3 => ⟨hw3.trans wipe_wipe, wi, H2, w2, s1, W3, ?_⟩
          cases ett : tt s1 with
          | bad => simp only [ett] at go; cases go
          | ex c fs => simp only [ett] at go; cases go
          | ok k s2 =>
            simp only [ett] at go
            intro k' w4 H4 m4 W4 rk
            cases (show k = k' from rk)
            cases k with
            | false =>
              simp only at go
              rw [if_neg Bool.false_ne_true]
              exact ⟨w4, acc, s2.st, vs, ho.go W4.ext W4.snd W4.sto, go⟩
            | true =>
              simp only at go
              rw [if_pos rfl]
              refine ⟨wi, H2, w4, s2, W4, ?_⟩
              cases e1 : fi1 s2 with
              | bad => rw [e1] at go; cases go
              | ex c fs => rw [e1] at go; cases go
              | ok ds1 s3 =>
                rw [e1] at go
                simp only at go
                cases eg : lcGo (inSl own1 s3.sl) t1 tt1 fe ds1 acc s3.st with
                | none => rw [eg] at go; cases go
                | some r1 =>
                  obtain ⟨acc1, st1⟩ := r1
                  rw [eg] at go
                  simp only at go
                  intro w5 H5 J1 m5 W5 wk1
                  obtain ⟨Gs1, Y1, wlk1, hG1, hY1⟩ := wk1
                  have h5 := ho.go W5.ext W5.snd W5.sto
                  refine it_any wlk1 (fun j H => PvA X w1 H1 w5 H5 D (fun a s => lcGo (inSl own1 s3.sl) t1 tt1 fe (ds1.drop j) a s = some (acc1, st1)) H)
                    ⟨w5, acc, s3.st, vs, ⟨h5.ext, .refl, h5.snd, h5.sto, h5.at', h5.tl, h5.nr, h5.ni⟩, by rw [List.drop_zero]; exact eg⟩ (fun i H _ ⟨wi, _, _, _, x, _⟩ => hG1 wi H x.mono) ?_ ?_
                  · exact lc_turn hr1 nD (fun j d ej => W5.sl j _ ej) W5.len hY1
                  · rintro H6 ⟨w6, a6, s6, v6, h6, g6⟩
                    rw [List.drop_length, lcGo] at g6
                    cases g6
                    exact ⟨w6, _, _, v6, ⟨h6.ext, h6.ext.mono W1.snd, h6.snd, h6.sto, h6.at', h6.tl, h6.nr, h6.ni⟩, go⟩
      · rintro H2 ⟨wi, acc, st, vs, ho, go⟩
        rw [List.drop_length, lcGo2] at go
        cases go
        exact h D wi H2 (ho.ext.mono W1.snd) (W1.step ho.ext ho.snd ho.sto) (.lst ho.at' ho.tl) ho.nr ho.ni (W1.ext.there D nD) fun j hj z => by
          obtain ⟨a, _, e1, h1, _⟩ := W1.linAddr hj
          rw [e1] at z
          cases z
          exact h1.there nD
section
variable {scope : Scope} {own : List (Str × Nat)} {own1 : List Nat} {fi fi1 : Sta → Res (List D)} {t t1 : Tg} {tt tt1 : Sta → Res Bool} {gg gg1 : TG}
theorem df_lc2 (hc : X.calm = true) (hN : X.N.Nodup) (hi : DI X G tg iter fi) (ok : BlkOk X.N X.env.scope scope own) (hv : ∀ i ∈ own1, i ∈ own.map (·.2))
    (hg : ∀ (s : Shared) (H : Hp) (C : Addr) (cl : List (Str × Addr)) (fp : List Addr), PG (X.blk s H scope (compEnvC scope cl C X.env) fp) tg gg) (hr : RawG X (own.map (·.2)) gg t)
    (ht : ∀ (s : Shared) (H : Hp) (C : Addr) (cl : List (Str × Addr)) (fp : List Addr) (G' : Env), G'.E = E0 → DTs (X.blk s H scope (compEnvC scope cl C X.env) fp) G' ifs tt)
    (hi1 : ∀ (s : Shared) (H : Hp) (C : Addr) (cl : List (Str × Addr)) (fp : List Addr) (G' : Env), G'.E = E0 → DI (X.blk s H scope (compEnvC scope cl C X.env) fp) G' tg1 iter1 fi1)
    (hg1 : ∀ (s : Shared) (H : Hp) (C : Addr) (cl : List (Str × Addr)) (fp : List Addr), PG (X.blk s H scope (compEnvC scope cl C X.env) fp) tg1 gg1) (hr1 : RawG X own1 gg1 t1)
    (ht1 : ∀ (s : Shared) (H : Hp) (C : Addr) (cl : List (Str × Addr)) (fp : List Addr) (G' : Env), G'.E = E0 → DTs (X.blk s H scope (compEnvC scope cl C X.env) fp) G' ifs1 tt1)
    (he : ∀ (s : Shared) (H : Hp) (C : Addr) (cl : List (Str × Addr)) (fp : List Addr) (G' : Env), G'.E = E0 → DE (X.blk s H scope (compEnvC scope cl C X.env) fp) G' elt fe)
    (hs : ∀ x, foldedSetIterable iter X.env x = pure x := by intro _; rfl) (hs1 : ∀ env x, foldedSetIterable iter1 env x = pure x := by intro _ _; rfl) : DF X G (.ListComp elt [⟨tg, iter, ifs, 0⟩, ⟨tg1, iter1, ifs1, 0⟩] scope pos) (lcF2 fi (own.map (·.2)) t tt fi1 own1 t1 tt1 fe) :=
  PEi (pe_lc2 (g := gg) (g1 := gg1) (tt := tT0 X tt) (tt1 := tT0 X tt1) (wi1 := tI0 X fi1) (te := tE0 X fe) hc hN hi ok hv hg (fun s H C cl fp => ⟨fun pins s1 σ1 H1 Q I ⟨w0, H0, q⟩ => (ht s H C cl fp (G0 w0 H0) rfl).run pins s1 σ1 H1 Q I q⟩)
    (fun s H C cl fp => ⟨fun pins s1 σ1 H1 Q I ⟨w0, H0, q⟩ => (hi1 s H C cl fp (G0 w0 H0) rfl).run pins s1 σ1 H1 Q I q⟩) hg1 (fun s H C cl fp => ⟨fun pins s1 σ1 H1 Q I ⟨w0, H0, q⟩ => (ht1 s H C cl fp (G0 w0 H0) rfl).run pins s1 σ1 H1 Q I q⟩)
    (fun s H C cl fp => ⟨fun pins s1 σ1 H1 Q I ⟨w0, H0, q⟩ => (he s H C cl fp (G0 w0 H0) rfl).run pins s1 σ1 H1 Q I q⟩) hs hs1) fun σ H Q h => lc2_read hr hr1 h
theorem ds_setLc2 {i : Nat} {y : Str} {py : Pos} (hc : X.calm = true) (hN : X.N.Nodup) (hy : X.N[i]? = some y) (hyl : X.env.scope.names.lookup y = some .local)
    (hsw : swapsWith (.ListComp elt [⟨tg, iter, ifs, 0⟩, ⟨tg1, iter1, ifs1, 0⟩] scope pos) (some (.Name y py)) spos.line X.env = pure true) (hi : DI X G tg iter fi) (ok : BlkOk X.N X.env.scope scope own) (hv : ∀ i ∈ own1, i ∈ own.map (·.2))
    (hg : ∀ (s : Shared) (H : Hp) (C : Addr) (cl : List (Str × Addr)) (fp : List Addr), PG (X.blk s H scope (compEnvC scope cl C X.env) fp) tg gg) (hr : RawG X (own.map (·.2)) gg t)
    (ht : ∀ (s : Shared) (H : Hp) (C : Addr) (cl : List (Str × Addr)) (fp : List Addr) (G' : Env), G'.E = E0 → DTs (X.blk s H scope (compEnvC scope cl C X.env) fp) G' ifs tt)
    (hi1 : ∀ (s : Shared) (H : Hp) (C : Addr) (cl : List (Str × Addr)) (fp : List Addr) (G' : Env), G'.E = E0 → DI (X.blk s H scope (compEnvC scope cl C X.env) fp) G' tg1 iter1 fi1)
    (hg1 : ∀ (s : Shared) (H : Hp) (C : Addr) (cl : List (Str × Addr)) (fp : List Addr), PG (X.blk s H scope (compEnvC scope cl C X.env) fp) tg1 gg1) (hr1 : RawG X own1 gg1 t1)
    (ht1 : ∀ (s : Shared) (H : Hp) (C : Addr) (cl : List (Str × Addr)) (fp : List Addr) (G' : Env), G'.E = E0 → DTs (X.blk s H scope (compEnvC scope cl C X.env) fp) G' ifs1 tt1)
    (he : ∀ (s : Shared) (H : Hp) (C : Addr) (cl : List (Str × Addr)) (fp : List Addr) (G' : Env), G'.E = E0 → DE (X.blk s H scope (compEnvC scope cl C X.env) fp) G' elt fe)
    (hs : ∀ x, foldedSetIterable iter X.env x = pure x := by intro _; rfl) (hs1 : ∀ env x, foldedSetIterable iter1 env x = pure x := by intro _ _; rfl) : DS X G (.Assign [.Name y py] (.ListComp elt [⟨tg, iter, ifs, 0⟩, ⟨tg1, iter1, ifs1, 0⟩] scope pos) spos) (bndS (lcF2 fi (own.map (·.2)) t tt fi1 own1 t1 tt1 fe) (setL i)) :=
  PSi (ps_setLc2 (g := gg) (g1 := gg1) (tt := tT0 X tt) (tt1 := tT0 X tt1) (wi1 := tI0 X fi1) (te := tE0 X fe) hc hN hy hyl hsw hi ok hv hg (fun s H C cl fp => ⟨fun pins s1 σ1 H1 Q I ⟨w0, H0, q⟩ => (ht s H C cl fp (G0 w0 H0) rfl).run pins s1 σ1 H1 Q I q⟩)
    (fun s H C cl fp => ⟨fun pins s1 σ1 H1 Q I ⟨w0, H0, q⟩ => (hi1 s H C cl fp (G0 w0 H0) rfl).run pins s1 σ1 H1 Q I q⟩) hg1 (fun s H C cl fp => ⟨fun pins s1 σ1 H1 Q I ⟨w0, H0, q⟩ => (ht1 s H C cl fp (G0 w0 H0) rfl).run pins s1 σ1 H1 Q I q⟩)
    (fun s H C cl fp => ⟨fun pins s1 σ1 H1 Q I ⟨w0, H0, q⟩ => (he s H C cl fp (G0 w0 H0) rfl).run pins s1 σ1 H1 Q I q⟩) hs hs1)
    fun D σ H ⟨w, s, W, h⟩ => lc2_read hr hr1 (tF_bind W h fun m s1 a w1 H1 mo W1 l n1 n2 n3 n4 h1 => h1 _ w1 H1 .refl (W1.setl l n1 n2 n3 n4))
end
end
end Dz
namespace Dz
open PySem PySem.Spec PyProof.Rows L2
section
variable {X : Cx} {G : Env} {σ σ' : L2.St} {w w1 w' : Wo} {H H1 H' : Hp} {s s1 s' : Sta} {K : PySem.W.Frag} {mg : Str → Option Value} {B : Ba}
variable {a b c e o : Expr} {es : List Expr} {f g h : Ev} {pos p2 p apos cpos spos : Pos} {st : Stmt} {x : Str}
/-! ### e.append(d), e any expression: a list of the store -/
def appE (f g : Ev) : Ex := bndS f fun d0 s => if isLst (.d d0) s = true ∧ (seqPk (.d d0) s).isSome = true then bndS g (fun d s => match d0 with
  | .loc n => match appAt (.d (.loc n)) 0 d s with
    | some s' => .nx s'
    | none => .bad
  | _ => .bad) s else .bad
theorem ds_appE (ha : DE X G a f) (hb : DE X G e g)
    (hbase : attributeBase a "append" X.env (eval a X.env) = eval a X.env := by rfl)
    (hfew : ((backTo cpos (starEach [e] X.env)).all (fun x => !x.1) && (backToKw cpos (keywordEach [] X.env)).all (fun x => x.1.isSome) && decide ([e].length + ([] : List Keyword).length + (if ([] : List Keyword).isEmpty then 0 else 1) < 30)) = true := by rfl)
    (hline : (apos.endLine == cpos.line) = true := by rfl) (h1 : starEach [e] X.env = (false, eval e X.env) :: starEach [] X.env := by rfl) (hplain : (backTo cpos (starEach [] X.env)).any (·.1) = false := by rfl)
    (hs : swapsWith (.Call (.Attribute a "append" apos) [e] [] cpos) none pos.line X.env = pure false := by rfl) : DS X G (.Expr (.Call (.Attribute a "append" apos) [e] [] cpos) pos) (appE f g) :=
  PSi (ps_expr (pe_bm PySem.F.plainAttrs_list PySem.F.slot_list_append PySem.F.type_list_append mt_append ha (pa_cons hb pa_nil h1) hbase hfew hline h1 hplain) hs) fun D σ H ⟨w, s, W, h⟩ => by
    refine ⟨w, s, W, PostS.bind h fun d0 s1 v0 w1 H1 m1 W1 r0 h => ?_⟩
    split at h
    · rename_i hl
      obtain ⟨ds, eds⟩ := Option.isSome_iff_exists.mp hl.2
      refine ⟨tyL_at W1 (k := .d d0) r0 hl.1 ds eds, w1, s1, W1, PostS.bind h fun d s2 u w2 H2 m2 W2 r1 h => ?_⟩
      split at h
      · rename_i n
        split at h
        · rename_i s3 ea
          exact app_st (Q := fun _ H' => D.nx σ H') W2 (Vd.mono m2 r0) r1 ea fun H' mo W' => h σ w2 H' mo W'
        · exact h.elim
      · exact h.elim
    · exact h.elim
end
end Dz
namespace Dz
open PySem PySem.Spec PyProof.Rows L2
section
variable {X : Cx} {G : Env} {σ σ' : L2.St} {w w1 w' : Wo} {H H1 H' : Hp} {s s1 s' : Sta} {K : PySem.W.Frag} {mg : Str → Option Value} {B : Ba} {I : Addr → Prop} {q : Bool} {a : Addr}
/-! ### a dict is locked while it is walked -/
/-- only the dict at a is locked or unlocked -/
structure Lk (H H' : Hp) (a : Addr) : Prop where
  ne : ∀ b, b ≠ a → H' b = H b
  dk : ∀ vs, Rd H a (.dK vs) → Rd H' a (.dK vs)
  dt : ∀ vs, Rd H a (.dT vs) → Rd H' a (.dT vs)
  nl : ∀ xs, H a ≠ some (.lst xs)
  nt : ∀ xs, H a ≠ some (.tup xs)
  nf : ∀ o xs, H a ≠ some (.frz o (.lst xs))
  no : ∀ c, H a ≠ some (.own c)
theorem Lk.at' (L : Lk H H' a) {b : Addr} {o : HO} (e : H b = some o) (n : b ≠ a) : H' b = some o := by rw [L.ne b n]; exact e
theorem Lk.rd (L : Lk H H' a) {b : Addr} {vs : List (Key × V)} (e : Rd H b (.dK vs)) : Rd H' b (.dK vs) := by
  by_cases h : b = a
  · subst h; exact L.dk vs e
  · unfold Rd; rw [L.ne b h]; exact e
theorem Lk.rdT (L : Lk H H' a) {b : Addr} {vs : List (List Key × V)} (e : Rd H b (.dT vs)) : Rd H' b (.dT vs) := by
  by_cases h : b = a
  · subst h; exact L.dt vs e
  · unfold Rd; rw [L.ne b h]; exact e
mutual
theorem Td.lk (L : Lk H H' a) : ∀ {x : P} {v : V}, Td K q H I x v → Td K q H' I x v
  | .non, _, h => by cases h; exact .non
  | .bl _, _, h => by cases h; exact .bl _
  | .int _, _, h => by cases h; exact .int _
  | .str _, _, h => by cases h; exact .str _
  | .lst xs, _, h => by
    cases h with
    | lst h1 h2 h3 => exact .lst (L.at' h1 fun z => by subst z; exact L.nl _ h1) h2 (TdL.lk L h3)
  | .tup xs, _, h => by
    cases h with
    | tup h1 h3 => exact .tup (L.at' h1 fun z => by subst z; exact L.nt _ h1) (TdL.lk L h3)
    | tupK hq h1 h3 => exact .tupK hq h1 (TdL.lk L h3)
theorem TdL.lk (L : Lk H H' a) : ∀ {xs : List P} {vs : List V}, TdL K q H I xs vs → TdL K q H' I xs vs
  | [], _, h => by cases h; exact .nil
  | _ :: _, _, h => by
    cases h with
    | cons h1 h2 => exact .cons (Td.lk L h1) (TdL.lk L h2)
end
theorem TdK.lk {κ : Type} (L : Lk H H' a) {xs : List (κ × P)} {vs : List (κ × V)} (h : TdK K q H I xs vs) : TdK K q H' I xs vs := by
  induction h with
  | nil => exact .nil
  | cons h1 _ ih => exact .cons (h1.lk L) ih
theorem Vd.lk (L : Lk H H' a) {x : D} {v : V} (h : Vd K H w x v) : Vd K H' w x v := by
  cases h with
  | p h => exact .p (h.lk L)
  | kt h1 h2 => exact .kt h1 h2
  | fz h1 h3 => exact .fz (by
    rcases h1 with ⟨ob, h1, i⟩ | h1
    · exact .inl ⟨ob, L.at' h1 fun z => by subst z; exact L.nf _ _ h1, i⟩
    · exact .inr h1) (h3.lk L)
  | loc h => exact .loc h
  | dic h1 h2 h3 => exact .dic (L.rd h1) h2 (h3.lk L)
  | dct h1 h2 h3 => exact .dct (L.rdT h1) h2 (h3.lk L)
theorem VdL.lk (L : Lk H H' a) {xs : List D} {vs : List V} (h : VdL K H w xs vs) : VdL K H' w xs vs := by
  induction h with
  | nil => exact .nil
  | cons h1 _ ih => exact .cons (h1.lk L) ih
theorem VdK.lk {κ : Type} (L : Lk H H' a) {xs : List (κ × D)} {vs : List (κ × V)} (h : VdK K H w xs vs) : VdK K H' w xs vs := by
  induction h with
  | nil => exact .nil
  | cons h1 _ ih => exact .cons (h1.lk L) ih
theorem MOk.lk (L : Lk H H' a) {b : Addr} {m : MO} (n : b ≠ a) (h : MOk K mg H w b m) : MOk K mg H' w b m := by
  cases h with
  | lst h t => exact .lst (L.at' h n) (t.lk L)
  | tup h t => exact .tup (L.at' h n) (t.lk L)
  | dic h t => exact .dic (L.at' h n) (t.lk L)
  | dct h t => exact .dct (L.at' h n) (t.lk L)
  | ins g h o t => exact .ins g (L.at' h n) (L.at' o fun z => by subst z; exact L.no _ o) (t.lk L)
theorem LOk.lk (L : Lk H H' a) {b : Addr} {m : Lin} (n : b ≠ a) (h : LOk K H I b m) : LOk K H' I b m := by
  cases h with
  | lst h t => exact .lst (L.at' h n) (t.lk L)
  | dic h t => exact .dic (L.at' h n) (t.lk L)
  | dct h t => exact .dct (L.at' h n) (t.lk L)
theorem StOk.lk (L : Lk H H' a) {S : Option (List MO)} (n : a ∉ w.ρ) (h : StOk K mg H w S) : StOk K mg H' w S := by
  cases S with
  | none => trivial
  | some S => exact ⟨h.1, fun k b m e1 e2 => (h.2 k b m e1 e2).lk L fun z => n (by rw [← z]; exact List.mem_of_getElem? e1)⟩
/-- a dict -/
def isDict (u : HO) : Prop := (∃ vs, u = .dK vs) ∨ ∃ vs, u = .dT vs
theorem lk_lock {u : HO} {od : Obj} (hd : H a = some u) (du : isDict u) : Lk H (upd H a (.frz od u)) a := by
  refine ⟨fun b n => upd_ne n, fun vs r => ?_, fun vs r => ?_, fun xs z => ?_, fun xs z => ?_, fun o xs z => ?_, fun c z => ?_⟩
  · rcases r with r | ⟨o, r⟩
    · rw [hd] at r; cases r; exact .inr ⟨od, upd_same⟩
    · rw [hd] at r; cases r; rcases du with ⟨_, z⟩ | ⟨_, z⟩ <;> cases z
  · rcases r with r | ⟨o, r⟩
    · rw [hd] at r; cases r; exact .inr ⟨od, upd_same⟩
    · rw [hd] at r; cases r; rcases du with ⟨_, z⟩ | ⟨_, z⟩ <;> cases z
  all_goals rw [hd] at z; cases z; rcases du with ⟨_, z⟩ | ⟨_, z⟩ <;> cases z
theorem lk_unlock {u : HO} {od : Obj} (hd : H a = some (.frz od u)) (du : isDict u) : Lk H (upd H a u) a := by
  refine ⟨fun b n => upd_ne n, fun vs r => ?_, fun vs r => ?_, fun xs z => ?_, fun xs z => ?_, fun o xs z => ?_, fun c z => ?_⟩
  · rcases r with r | ⟨o, r⟩
    · rw [hd] at r; cases r
    · rw [hd] at r; cases r; exact .inl upd_same
  · rcases r with r | ⟨o, r⟩
    · rw [hd] at r; cases r
    · rw [hd] at r; cases r; exact .inl upd_same
  · rw [hd] at z; cases z
  · rw [hd] at z; cases z
  · rw [hd] at z; cases z; rcases du with ⟨_, z⟩ | ⟨_, z⟩ <;> cases z
  · rw [hd] at z; cases z
/-- the entry, as it is seen from within -/
def Ba.lk (B : Ba) (a : Addr) (o : HO) : Ba := ⟨⟨B.w.ρ, fun b => B.w.I b ∨ b = a⟩, upd B.H a o⟩
theorem upd_none {o : HO} {b : Addr} (h : upd H a o b = none) : b ≠ a ∧ H b = none := by
  by_cases n : b = a
  · subst n; rw [upd_same] at h; cases h
  · rw [upd_ne n] at h; exact ⟨n, h⟩
theorem Sound.upd' {o : HO} (S : Sound w H) : Sound w (upd H a o) := S.updF
theorem Wd.lock {u : HO} {od : Obj} (W : Wd K mg B w σ s H) (ia : w.I a) (hd : H a = some u) (du : isDict u) : Wd K mg (B.lk a (.frz od u)) w σ s (upd H a (.frz od u)) := by
  have L := lk_lock (od := od) hd du
  have na : a ∉ w.ρ := fun z => W.snd.ri a z ia
  have nb : a ∉ B.w.ρ := fun z => by
    obtain ⟨n, hn⟩ := List.mem_iff_getElem?.mp z
    exact na (List.mem_of_getElem? (W.ext.pre n a hn))
  refine ⟨⟨fun b o e n => ?_, W.ext.pre, fun b h => ?_, fun b h => ?_, fun b h => ?_, fun b h => ?_, fun b xs e => ?_⟩, W.snd.updF, ⟨W.sb.nd, fun b h z => ?_, fun b h z => ?_, fun b h z => ?_⟩, W.sto.lk L na, fun i x e => ?_, W.len, W.two⟩
  · by_cases h : b = a
    · subst h
      have e : upd B.H b (.frz od u) b = some o := e
      rw [upd_same] at e ⊢; exact e
    · have e : upd B.H a (.frz od u) b = some o := e
      rw [upd_ne h] at e ⊢; exact W.ext.keep b o e n
  · rcases W.ext.newr b h with z | z
    · exact .inl z
    · exact .inr (by show upd B.H a _ b = none; rw [upd_ne (fun y => na (by rw [← y]; exact h))]; exact z)
  · rcases h with h | rfl
    · exact W.ext.imm b h
    · exact ia
  · by_cases n : b = a
    · exact .inl (.inr n)
    · rcases W.ext.newi b h with z | z
      · exact .inl (.inl z)
      · exact .inr (by show upd B.H a _ b = none; rw [upd_ne n]; exact z)
  · obtain ⟨n, z⟩ := upd_none h
    show upd B.H a _ b = none
    rw [upd_ne n]; exact W.ext.there b z
  · have e : upd B.H a (.frz od u) b = some (.tup xs) := e
    by_cases n : b = a
    · subst n; rw [upd_same] at e; cases e
    · rw [upd_ne n] at e ⊢; exact W.ext.tup b xs e
  · obtain ⟨_, z⟩ := upd_none (show upd B.H a _ b = none from z)
    exact W.sb.rt b h z
  · rcases z with z | rfl
    · exact W.sb.ri b h z
    · exact nb h
  · obtain ⟨n, z⟩ := upd_none (show upd B.H a _ b = none from z)
    rcases h with h | h
    · exact W.sb.it b h z
    · exact n h
  · have h := W.sl i x e
    cases x with
    | un => trivial
    | v d => obtain ⟨v, e1, h1⟩ := h; exact ⟨v, e1, h1.lk L⟩
    | lin l =>
      obtain ⟨b, e1, h1, h2, h3, h4⟩ := h
      have n : b ≠ a := fun z => h3 (by rw [z]; exact ia)
      exact ⟨b, e1, h1.lk L n, h2, h3, by show upd B.H a _ b = none; rw [upd_ne n]; exact h4⟩
/-- the lock stands at the end -/
theorem ext_locked {o : HO} (nb : a ∉ B.w.ρ) (x : Ext (B.lk a o).w (B.lk a o).H w' H') : H' a = some o ∧ w'.I a := ⟨x.keep a o upd_same nb, x.imm a (.inr rfl)⟩
theorem ext_unlock {u : HO} {od : Obj} (W : Wd K mg B w σ s H) (ia : w.I a) (hd : H a = some u) (du : isDict u) (x : Ext (B.lk a (.frz od u)).w (B.lk a (.frz od u)).H w' H') : Ext B.w B.H w' (upd H' a u) := by
  refine ⟨fun b o e n => ?_, x.pre, fun b h => ?_, fun b h => x.imm b (.inl h), fun b h => ?_, fun b h => ?_, fun b xs e => ?_⟩
  · by_cases h : b = a
    · subst h
      have := W.ext.keep b o e n
      rw [hd] at this
      rw [upd_same]; exact this
    · rw [upd_ne h]
      exact x.keep b o (by show upd B.H a _ b = some o; rw [upd_ne h]; exact e) n
  · rcases x.newr b h with z | z
    · exact .inl z
    · exact .inr (upd_none (show upd B.H a _ b = none from z)).2
  · by_cases n : b = a
    · subst n; exact W.ext.newi b ia
    · rcases x.newi b h with z | z
      · rcases z with z | z
        · exact .inl z
        · exact absurd z n
      · exact .inr (upd_none (show upd B.H a _ b = none from z)).2
  · obtain ⟨n, z⟩ := upd_none h
    exact (upd_none (show upd B.H a _ b = none from x.there b z)).2
  · have n : b ≠ a := fun z => by
      subst z
      have := W.ext.tup b xs e
      rw [hd] at this
      cases this
      rcases du with ⟨_, z⟩ | ⟨_, z⟩ <;> cases z
    rw [upd_ne n]
    exact x.tup b xs (by show upd B.H a _ b = _; rw [upd_ne n]; exact e)
theorem Wd.unlock {u : HO} {od : Obj} {σ2 : L2.St} {s2 : Sta} (W : Wd K mg B w σ s H) (ia : w.I a) (hd : H a = some u) (du : isDict u) (W' : Wd K mg (B.lk a (.frz od u)) w' σ2 s2 H') : Wd K mg B w' σ2 s2 (upd H' a u) ∧ H' a = some (.frz od u) ∧ Ext B.w B.H w' (upd H' a u) := by
  have na : a ∉ w.ρ := fun z => W.snd.ri a z ia
  have nb : a ∉ B.w.ρ := fun z => by
    obtain ⟨n, hn⟩ := List.mem_iff_getElem?.mp z
    exact na (List.mem_of_getElem? (W.ext.pre n a hn))
  obtain ⟨e, ia'⟩ := ext_locked nb W'.ext
  have L := lk_unlock e du
  have x := ext_unlock W ia hd du W'.ext
  refine ⟨⟨x, W'.snd.updF, W.sb, W'.sto.lk L (fun z => W'.snd.ri a z ia'), fun i y ey => ?_, W'.len, W'.two⟩, e, x⟩
  have h := W'.sl i y ey
  cases y with
  | un => trivial
  | v d => obtain ⟨v, e1, h1⟩ := h; exact ⟨v, e1, h1.lk L⟩
  | lin l =>
    obtain ⟨b, e1, h1, h2, h3, h4⟩ := h
    exact ⟨b, e1, h1.lk L fun z => h3 (by rw [z]; exact ia'), h2, h3, (upd_none (show upd B.H a _ b = none from h4)).2⟩
end
end Dz
namespace Dz
open PySem PySem.Spec PyProof.Rows L2
section
variable {X : Cx} {G : Env} {σ σ' : L2.St} {w w1 w' : Wo} {H H1 H' : Hp} {s s1 s' : Sta} {K : PySem.W.Frag} {mg : Str → Option Value} {B : Ba} {I : Addr → Prop} {q : Bool} {a : Addr}
variable {b c e o : Expr} {es : List Expr} {f g h : Ev} {pos p2 p px : Pos} {st : Stmt} {sts : List Stmt} {gs : Ex} {x : Str}
theorem mono_unlock {u : HO} {od : Obj} (ia : w.I a) (hd : H a = some u) (du : isDict u) (m : Mono w (upd H a (.frz od u)) w' H') : Mono w H w' (upd H' a u) := by
  refine ⟨⟨fun b o ib e => ?_, fun b xs e => ?_⟩, m.pre⟩
  · by_cases n : b = a
    · subst n
      rw [hd] at e; cases e
      exact ⟨(m.imm.at' b _ ib upd_same).1, upd_same⟩
    · obtain ⟨h1, h2⟩ := m.imm.at' b o ib (by rw [upd_ne n]; exact e)
      exact ⟨h1, by rw [upd_ne n]; exact h2⟩
  · have n : b ≠ a := fun z => by
      subst z
      rw [hd] at e
      cases e
      rcases du with ⟨_, z⟩ | ⟨_, z⟩ <;> cases z
    rw [upd_ne n]
    exact m.imm.tup b xs (by rw [upd_ne n]; exact e)
/-- no exception leaves a loop over a dict -/
def noEx : Fl → Fl
  | .ex _ _ => .bad
  | r => r
theorem PostS.lock {D : Ends} {r : Fl} {u : HO} {od : Obj} (W : Wd X.K X.mg G.B w σ s H) (ia : w.I a) (hd : H a = some u) (du : isDict u) (h : PostS X G w H (noEx r) D) :
    PostS X ⟨G.B.lk a (.frz od u), E0⟩ w (upd H a (.frz od u)) r ⟨fun σ' H' => H' a = some (.frz od u) ∧ D.nx σ' (upd H' a u), fun v H' => H' a = some (.frz od u) ∧ D.rt v (upd H' a u), fun σ' H' => H' a = some (.frz od u) ∧ D.bk σ' (upd H' a u), fun σ' H' => H' a = some (.frz od u) ∧ D.ct σ' (upd H' a u)⟩ := by
  have nb : a ∉ G.B.w.ρ := fun z => by
    obtain ⟨n, hn⟩ := List.mem_iff_getElem?.mp z
    exact W.snd.ri a (List.mem_of_getElem? (W.ext.pre n a hn)) ia
  cases r with
  | nx s2 =>
    intro σ2 w2 H2 m W2
    obtain ⟨W3, e, x⟩ := W.unlock ia hd du W2
    exact ⟨e, h σ2 w2 _ (mono_unlock ia hd du m) W3⟩
  | brk s2 =>
    intro σ2 w2 H2 m W2
    obtain ⟨W3, e, x⟩ := W.unlock ia hd du W2
    exact ⟨e, h σ2 w2 _ (mono_unlock ia hd du m) W3⟩
  | cnt s2 =>
    intro σ2 w2 H2 m W2
    obtain ⟨W3, e, x⟩ := W.unlock ia hd du W2
    exact ⟨e, h σ2 w2 _ (mono_unlock ia hd du m) W3⟩
  | ret d s2 =>
    intro v w2 H2 x sn so hv
    obtain ⟨e, ia2⟩ := ext_locked nb x
    have L := lk_unlock e du
    exact ⟨e, h v w2 _ (ext_unlock W ia hd du x) sn.updF (so.lk L fun z => sn.ri a z ia2) (hv.lk L)⟩
  | ex c fs => exact h.elim
  | bad => exact h.elim
theorem PostS.e0 {D : Ends} {r : Fl} (h : PostS X G w H (noEx r) D) : PostS X ⟨G.B, E0⟩ w H r D := by
  cases r with
  | ex c fs => exact h.elim
  | _ => exact h
def keyP' : Key → P
  | .inl i => .int i
  | .inr x => .str x
theorem key_td {J : Addr → Prop} {k : Key} : Td K false H J (keyP' k) (kV k) := by
  cases k with
  | inl i => exact .int i
  | inr x => exact .str x
theorem keys_td {J : Addr → Prop} : ∀ {ks : List Key}, TdL K false H J (ks.map keyP') (ks.map kV)
  | [] => .nil
  | _ :: _ => .cons key_td keys_td
def keysD : D → Option (List D)
  | .dic kvs => some (kvs.map fun kv => .p (keyP' kv.1))
  | .dct kvs => some (kvs.map fun kv => .p (.tup (kv.1.map keyP')))
  | _ => none
theorem TdK.mapK {κ : Type} {J : Addr → Prop} {kvs : List (κ × P)} {vs : List (κ × V)} (t : TdK K q H J kvs vs) : kvs.map (·.1) = vs.map (·.1) := by
  induction t with
  | nil => rfl
  | cons _ _ ih => simp [ih]
theorem map_at {α β : Type} {xs : List α} {ys : List β} {i : Nat} {y : β} {γ : Type} {f : α → γ} {g : β → γ} (e : xs.map f = ys.map g) (h : ys[i]? = some y) : ∃ x, xs[i]? = some x ∧ f x = g y := by
  have h2 : (xs.map f)[i]? = some (g y) := by rw [e, List.getElem?_map, h]; rfl
  rw [List.getElem?_map] at h2
  obtain ⟨x, hx, hf⟩ := Option.map_eq_some_iff.mp h2
  exact ⟨x, hx, hf⟩
/-- the keys of a locked dict -/
theorem walkK {od : Obj} {kvs : List (Key × P)} {vs : List (Key × V)} {J : Addr → Prop} (ia : w.I a) (hd : H a = some (.frz od (.dK vs))) (t : TdK X.K false H J kvs vs) : WalkD X G w H (Itk a od vs) (kvs.map fun kv => .p (keyP' kv.1)) := by
  have hl : (kvs.map fun kv => D.p (keyP' kv.1)).length = vs.length := by rw [List.length_map]; have := congrArg List.length t.mapK; simpa using this
  refine ⟨_, _, by rw [hl]; exact walk_keys, fun w1 H1 m => (m.imm.at' a _ ia hd).2, fun i H0 x H1 w0 hi m sn y => ?_⟩
  obtain ⟨rfl, k, v, e, rfl⟩ := y
  refine ⟨.inl rfl, fun w1 _ _ => ?_⟩
  obtain ⟨kv, h1, h2⟩ := map_at t.mapK e
  refine ⟨.p (keyP' k), by rw [List.getElem?_map, h1]; simp only [Option.map_some]; rw [h2], .p key_td⟩
theorem walkT {od : Obj} {kvs : List (List Key × P)} {vs : List (List Key × V)} {J : Addr → Prop} (ia : w.I a) (hd : H a = some (.frz od (.dT vs))) (t : TdK X.K false H J kvs vs) : WalkD X G w H (Itkt a od vs) (kvs.map fun kv => .p (.tup (kv.1.map keyP'))) := by
  have hl : (kvs.map fun kv => D.p (.tup (kv.1.map keyP'))).length = vs.length := by rw [List.length_map]; have := congrArg List.length t.mapK; simpa using this
  refine ⟨_, _, by rw [hl]; exact walk_keysT, fun w1 H1 m => (m.imm.at' a _ ia hd).2, fun i H0 x H1 w0 hi m sn y => ?_⟩
  obtain ⟨rfl, k, v, qa, e, rfl, hq⟩ := y
  refine ⟨.inl rfl, fun w1 _ _ => ?_⟩
  obtain ⟨kv, h1, h2⟩ := map_at t.mapK e
  refine ⟨.p (.tup (k.map keyP')), by rw [List.getElem?_map, h1]; simp only [Option.map_some]; rw [h2], .p (.tup hq keys_td)⟩
/-- the loop, from its beginning on -/
theorem loop_read {D : Ends} {t : Tg} {J : It} {ds : List Dz.D} (W1 : Wd X.K X.mg B w1 σ s' H1) (wk : WalkD X ⟨B, E0⟩ w1 H1 J ds) (h : PostS X ⟨B, E0⟩ w1 H1 (loopS t gs ds s') D) :
    ∃ W : Nat → Nat → L2.St → Hp → Prop, (∃ m, W 0 m σ H1) ∧ ∀ i m σ H, W i m σ H → (J.stop i H ∧ D.nx σ H) ∨ (J.go i H ∧ ∃ N : L2.St → Hp → Prop, (∀ σ' H', N σ' H' → ∃ m', m' < m ∧ W (i + 1) m' σ' H') ∧ ∀ x H', J.yld i H x H' →
      (∃ B, tG X ⟨B, E0⟩ t x σ H' fun σ2 H2 => (∃ B, tS X ⟨B, E0⟩ gs { D with nx := N, ct := N, bk := D.nx } σ2 H2))) := by
  obtain ⟨Gs, Y, wlk, hG, hY⟩ := wk
  refine for_it (g := fun v σ H Q => ∃ B, tG X ⟨B, E0⟩ t v σ H Q) (tb := fun D σ H => ∃ B, tS X ⟨B, E0⟩ gs D σ H) wlk (fun i σ H => ∃ w0 s, Mono w1 H1 w0 H ∧ Wd X.K X.mg B w0 σ s H ∧ PostS X ⟨B, E0⟩ w0 H (loopS t gs (ds.drop i) s) D) ⟨w1, s', .refl, W1, by rw [List.drop_zero]; exact h⟩ (fun i σ H _ ⟨w0, s, m, W0, _⟩ => hG w0 H m) ?_ ?_
  · rintro i x σ2 H2 H3 hi ⟨w0, s, m, W0, h0⟩ y
    obtain ⟨w2, d, m2, W2, ed, vd⟩ := yield_at (G := ⟨B, E0⟩) (J := J) (Y := Y) W0 (hY i H2 x H3 w0 hi m W0.snd y)
    refine ⟨B, w2, s, d, W2, vd, ?_⟩
    have ed' : ds.drop i = d :: ds.drop (i + 1) := by
      rw [List.drop_eq_getElem_cons hi]
      rw [List.getElem?_eq_getElem hi] at ed
      rw [Option.some.inj ed]
    rw [ed', loopS] at h0
    cases et : t d s with
    | none => simp only [et] at h0; exact h0.elim
    | some s3 =>
      simp only [et] at h0
      intro σ4 w4 H4 m4 W4
      refine ⟨B, w4, s3, W4, ?_⟩
      have mm : Mono w1 H1 w4 H4 := (m.trans m2).trans m4
      have h0 := h0.at (m2.trans m4)
      revert h0
      cases gs s3 with
      | nx s5 => exact fun h0 σ' w' H' m' W' => ⟨w', s5, mm.trans m', W', h0.at m'⟩
      | cnt s5 => exact fun h0 σ' w' H' m' W' => ⟨w', s5, mm.trans m', W', h0.at m'⟩
      | brk s5 => exact fun h0 => h0
      | ret d s5 => exact fun h0 => h0
      | ex c fs => exact fun h0 => h0
      | bad => exact fun h0 => h0
  · rintro σ2 H2 ⟨w0, s, m, W0, h0⟩
    rw [List.drop_length] at h0
    exact h0 σ2 w0 H2 .refl W0
/-- for k in d, d a dict that no one changes any more -/
def forK (i : Nat) (t : Tg) (b : Ex) : Ex := fun s => match s.sl[i]? with
  | some (.v d) => match keysD d with
    | some ds => noEx (loopS t b ds s)
    | none => .bad
  | _ => .bad
theorem PS.or' {t t' : TS} (h : PS X st t) (h' : PS X st t') : PS X st (fun D σ H => t D σ H ∨ t' D σ H) := ⟨fun pins s σ H D I q => by
  rcases q with q | q
  · exact h.run pins s σ H D I q
  · exact h'.run pins s σ H D I q⟩
theorem ds_forK {i : Nat} {tg : Expr} {t : Tg} (hp : PassesOwn (model X.prog X.w) X.A X.env X.xe) (hc : X.calm = true) (hg : ∀ B, DG X ⟨B, E0⟩ tg t) (hb : ∀ G', G'.E = E0 → DSs X G' sts gs) (hN : X.N[i]? = some x := by rfl) (hv : Vis X.env.scope x := by first | exact Or.inl rfl | exact Or.inr (Or.inl rfl) | exact Or.inr (Or.inr rfl))
    (hd : (x == ("__debug__" : Str)) = false := by decide) (hcd : (x == ("__classdict__" : Str)) = false := by decide) (hs : ∀ y, foldedSetIterable (.Name x px) X.env y = pure y := by intro _; rfl) :
    DS X G (.For tg (.Name x px) sts [] pos) (forK i t gs) := by
  have base := ps_for (pos := pos) (g := fun v σ H Q => ∃ B, tG X ⟨B, E0⟩ t v σ H Q) (tb := fun D σ H => ∃ B, tS X ⟨B, E0⟩ gs D σ H) hp hc (pi_keys (tg := tg) (pe_var (pos := px) (i := i) hN hv hd hcd)) ⟨fun pins s σ H v u Q I r ⟨B, q⟩ => (hg B).run pins s σ H v u Q I r q⟩ ⟨fun pins s σ H D I ⟨B, q⟩ => (hb ⟨B, E0⟩ rfl).run pins s σ H D I q⟩ hs
  refine PSi (PS.or' (ps_lock base) base) fun D σ H ⟨w, s, W, h⟩ => ?_
  unfold forK at h
  split at h
  · rename_i d ed
    obtain ⟨v, ev, hv⟩ := W.sl i _ ed
    split at h
    · rename_i ds ek
      cases hv with
      | @dic a kvs vs r ia t =>
        cases ek
        rcases r with r | ⟨od, r⟩
        · refine .inl ⟨a, _, r, trivial, fun od => ⟨.ref a, ev, a, od, rfl, .inl ⟨vs, upd_same, ?_⟩⟩⟩
          exact loop_read (W.lock ia r (.inl ⟨_, rfl⟩)) (walkK ia upd_same (t.lk (lk_lock r (.inl ⟨_, rfl⟩)))) (PostS.lock W ia r (.inl ⟨_, rfl⟩) h)
        · refine .inr ⟨.ref a, ev, a, od, rfl, .inl ⟨vs, r, ?_⟩⟩
          exact loop_read W (walkK ia r t) h.e0
      | @dct a kvs vs r ia t =>
        cases ek
        rcases r with r | ⟨od, r⟩
        · refine .inl ⟨a, _, r, trivial, fun od => ⟨.ref a, ev, a, od, rfl, .inr ⟨vs, upd_same, ?_⟩⟩⟩
          exact loop_read (W.lock ia r (.inr ⟨_, rfl⟩)) (walkT ia upd_same (t.lk (lk_lock r (.inr ⟨_, rfl⟩)))) (PostS.lock W ia r (.inr ⟨_, rfl⟩) h)
        · refine .inr ⟨.ref a, ev, a, od, rfl, .inr ⟨vs, r, ?_⟩⟩
          exact loop_read W (walkT ia r t) h.e0
      | p _ => cases ek
      | fz _ _ => cases ek
      | kt _ _ => cases ek
      | loc _ => cases ek
    · exact h.elim
  · exact h.elim
end
end Dz
namespace Dz
open PySem PySem.Spec PyProof.Rows L2
section
variable {X : Cx} {G : Env} {σ σ' : L2.St} {w w1 w' : Wo} {H H1 H' : Hp} {s s1 s' : Sta} {K : PySem.W.Frag} {mg : Str → Option Value} {B : Ba} {I : Addr → Prop} {q : Bool} {a : Addr}
variable {b c e o elt tg iter : Expr} {es ifs : List Expr} {f g h fe : Ev} {pos p2 p px : Pos} {st : Stmt} {sts : List Stmt} {gs : Ex} {x : Str}
theorem PostF.lock {Q : VK} {m : Lin} {s2 : Sta} {u : HO} {od : Obj} (W : Wd X.K X.mg G.B w σ s H) (ia : w.I a) (hd : H a = some u) (du : isDict u) (h : PostF X G σ w H (.ok m s2) Q) :
    PostF X ⟨G.B.lk a (.frz od u), E0⟩ σ w (upd H a (.frz od u)) (.ok m s2) (fun v H' => H' a = some (.frz od u) ∧ Q v (upd H' a u)) := by
  intro D w2 H2 m2 W2 l n1 n2 n3 n4
  obtain ⟨W3, e, x⟩ := W.unlock ia hd du W2
  have ia2 : w2.I a := (m2.imm.at' a _ ia upd_same).1
  have nD : D ≠ a := fun z => n2 (by rw [z]; exact ia2)
  exact ⟨e, h D w2 _ (mono_unlock ia hd du m2) W3 (l.lk (lk_unlock e du) nD) n1 n2 (upd_none (show upd G.B.H a _ D = none from n3)).2 n4⟩
theorem PostF.e0 {Q : VK} {m : Lin} {s2 : Sta} (h : PostF X G σ w H (.ok m s2) Q) : PostF X ⟨G.B, E0⟩ σ w H (.ok m s2) Q := h
/-- a comprehension, from its walk on -/
theorem lc_tail {own : List Nat} {t : Tg} {tt : Sta → Res Bool} {gg : TG} {ds : List D} {xs : List P} {stE : Option (List MO)} {J : It} {Q : VK} (hr : RawG X own gg t) (W1 : Wd X.K X.mg G.B w1 σ s' H1) (wk : WalkD X G w1 H1 J ds)
    (el : lcGo (inSl own s'.sl) t tt fe ds [] s'.st = some (xs, stE)) (h : PostF X G σ w1 H1 (.ok (.lst xs) ⟨s'.sl, stE⟩) Q) :
    ∀ D, H1 D = none → ∃ W : Nat → Nat → Hp → Prop, (∃ m, W 0 m (upd H1 D (.lst []))) ∧ ∀ i m H, W i m H → (J.stop i H ∧ Q (.ref D) H) ∨ (J.go i H ∧ ∃ Nx : Hp → Prop, (∀ H', Nx H' → ∃ m', m' < m ∧ W (i + 1) m' H') ∧ ∀ x H', J.yld i H x H' → gg x (wipe σ own) H' fun σ2 H2 => wipe σ2 own = wipe σ own ∧ tT0 X tt σ2 H2 fun b H3 =>
      if b = true then tE0 X fe σ2 H3 fun y H4 => ∃ acc, H4 D = some (.lst acc) ∧ acc.length < sizeLine ∧ Nx (upd H4 D (.lst (acc ++ [y]))) else Nx H3) := by
  intro D nD
  obtain ⟨Gs, Y, wlk, hG, hY⟩ := wk
  have b0 := W1.bare (o := .lst []) nD
  have x0 : Ext w1 H1 w1 (upd H1 D (.lst [])) := Ext.refl.updF nD
  refine it_any wlk (fun i H => PvA X w1 H1 w1 H1 D (fun acc st => lcGo (inSl own s'.sl) t tt fe (ds.drop i) acc st = some (xs, stE)) H)
    ⟨w1, [], s'.st, [], ⟨x0, x0.mono W1.snd, b0.2.1.snd, b0.2.1.sto, upd_same, .nil, b0.2.2.1, b0.2.2.2.1⟩, by rw [List.drop_zero]; exact el⟩ (fun i H _ ⟨wi, _, _, _, x, _⟩ => hG wi H x.mono) ?_ ?_
  · exact lc_turn hr nD (fun j d ej => W1.sl j _ ej) W1.len hY
  · rintro H2 ⟨wi, acc, st, vs, ho, go⟩
    rw [List.drop_length, lcGo] at go
    cases go
    exact h D wi H2 (ho.ext.mono W1.snd) (W1.step ho.ext ho.snd ho.sto) (.lst ho.at' ho.tl) ho.nr ho.ni (W1.ext.there D nD) fun j hj z => by
      obtain ⟨a, _, e1, h1, _⟩ := W1.linAddr hj
      rw [e1] at z
      cases z
      exact h1.there nD
/-- [.. for k in d ..] -/
def lcK (i : Nat) (own : List Nat) (t : Tg) (tt : Sta → Res Bool) (fe : Ev) : Sta → Res Lin := fun s => match s.sl[i]? with
  | some (.v d) => match keysD d with
    | some ds => match lcGo (inSl own s.sl) t tt fe ds [] s.st with
      | some (xs, st) => .ok (.lst xs) ⟨s.sl, st⟩
      | none => .bad
    | none => .bad
  | _ => .bad
theorem PE.or' {t t' : TE} (h : PE X e t) (h' : PE X e t') : PE X e (fun σ H Q => t σ H Q ∨ t' σ H Q) := ⟨fun pins s σ H Q I q => by
  rcases q with q | q
  · exact h.run pins s σ H Q I q
  · exact h'.run pins s σ H Q I q⟩
theorem lcK_read {i : Nat} {own : List Nat} {t : Tg} {tt : Sta → Res Bool} {gg : TG} {tv : TE} (hr : RawG X own gg t) (tvh : ∀ σ H Q v, σ[i]? = some (some v) → Q v H → tv σ H Q) {Q : VK} (h0 : tF X G (lcK i own t tt fe) σ H Q) :
    tLockE (tLc (iKeys tv) gg (tT0 X tt) (tE0 X fe) own) σ H Q ∨ tLc (iKeys tv) gg (tT0 X tt) (tE0 X fe) own σ H Q := by
  obtain ⟨w, s, W, h⟩ := h0
  unfold lcK at h
  split at h
  · rename_i d ed
    obtain ⟨v, ev, hv⟩ := W.sl i _ ed
    split at h
    · rename_i ds ek
      split at h
      · rename_i xs stE el
        cases hv with
        | @dic a kvs vs r ia t =>
          cases ek
          rcases r with r | ⟨od, r⟩
          · refine .inl ⟨a, _, r, trivial, fun od => tvh _ _ _ _ ev ⟨a, od, rfl, .inl ⟨vs, upd_same, ?_⟩⟩⟩
            exact lc_tail (G := ⟨G.B.lk a (.frz od (.dK vs)), E0⟩) hr (W.lock ia r (.inl ⟨_, rfl⟩)) (walkK ia upd_same (t.lk (lk_lock r (.inl ⟨_, rfl⟩)))) el (PostF.lock W ia r (.inl ⟨_, rfl⟩) h)
          · refine .inr (tvh _ _ _ _ ev ⟨a, od, rfl, .inl ⟨vs, r, ?_⟩⟩)
            exact lc_tail hr W (walkK ia r t) el h
        | @dct a kvs vs r ia t =>
          cases ek
          rcases r with r | ⟨od, r⟩
          · refine .inl ⟨a, _, r, trivial, fun od => tvh _ _ _ _ ev ⟨a, od, rfl, .inr ⟨vs, upd_same, ?_⟩⟩⟩
            exact lc_tail (G := ⟨G.B.lk a (.frz od (.dT vs)), E0⟩) hr (W.lock ia r (.inr ⟨_, rfl⟩)) (walkT ia upd_same (t.lk (lk_lock r (.inr ⟨_, rfl⟩)))) el (PostF.lock W ia r (.inr ⟨_, rfl⟩) h)
          · refine .inr (tvh _ _ _ _ ev ⟨a, od, rfl, .inr ⟨vs, r, ?_⟩⟩)
            exact lc_tail hr W (walkT ia r t) el h
        | p _ => cases ek
        | fz _ _ => cases ek
        | kt _ _ => cases ek
        | loc _ => cases ek
      · exact h.elim
    · exact h.elim
  · exact h.elim
section
variable {scope : Scope} {own : List (Str × Nat)} {t : Tg} {tt : Sta → Res Bool} {gg : TG}
theorem df_lcK {i : Nat} (hc : X.calm = true) (hN : X.N.Nodup) (hx : X.N[i]? = some x) (hv : Vis X.env.scope x) (hd : (x == ("__debug__" : Str)) = false) (hcd : (x == ("__classdict__" : Str)) = false) (ok : BlkOk X.N X.env.scope scope own)
    (hg : ∀ (s : Shared) (H : Hp) (C : Addr) (cl : List (Str × Addr)) (fp : List Addr), PG (X.blk s H scope (compEnvC scope cl C X.env) fp) tg gg) (hr : RawG X (own.map (·.2)) gg t)
    (ht : ∀ (s : Shared) (H : Hp) (C : Addr) (cl : List (Str × Addr)) (fp : List Addr) (G' : Env), G'.E = E0 → DTs (X.blk s H scope (compEnvC scope cl C X.env) fp) G' ifs tt)
    (he : ∀ (s : Shared) (H : Hp) (C : Addr) (cl : List (Str × Addr)) (fp : List Addr) (G' : Env), G'.E = E0 → DE (X.blk s H scope (compEnvC scope cl C X.env) fp) G' elt fe)
    (hs : ∀ y, foldedSetIterable (.Name x px) X.env y = pure y := by intro _; rfl) : DF X G (.ListComp elt [⟨tg, .Name x px, ifs, 0⟩] scope pos) (lcK i (own.map (·.2)) t tt fe) := by
  have base := pe_lc (g := gg) (tt := tT0 X tt) (te := tE0 X fe) (pos := pos) hc hN (pi_keys (tg := tg) (pe_var (pos := px) (i := i) hx hv hd hcd)) ok hg (fun s H C cl fp => ⟨fun pins s1 σ1 H1 Q I ⟨w0, H0, q⟩ => (ht s H C cl fp (G0 w0 H0) rfl).run pins s1 σ1 H1 Q I q⟩) (fun s H C cl fp => ⟨fun pins s1 σ1 H1 Q I ⟨w0, H0, q⟩ => (he s H C cl fp (G0 w0 H0) rfl).run pins s1 σ1 H1 Q I q⟩) hs
  exact PEi (PE.or' (pe_lock base) base) fun σ H Q h => lcK_read hr (fun σ H Q v e q => ⟨v, e, q⟩) h
end
end
end Dz
namespace Dz
open PySem PySem.Spec PyProof.Rows L2
section
variable {X : Cx} {G : Env} {σ σ' : L2.St} {w w1 w' : Wo} {H H1 H' : Hp} {s s1 s' : Sta} {K : PySem.W.Frag} {mg : Str → Option Value} {B : Ba} {q : Bool} {a : Addr}
variable {e e2 : Expr} {elts : List Expr} {kk : Nat} {p pos tpos : Pos} {fa : Sta → Res (List D)}
/-! ### zip of two lists or two tuples -/
def pairsP (xs ys : List P) : List D := List.zipWith (fun x y => .p (.tup [x, y])) xs ys
def zipR (ds : List D) : Sta → Res (List D) := fun s => match ds with
  | [.p (.lst xs), .p (.lst ys)] => .ok (pairsP xs ys) s
  | [.p (.tup xs), .p (.tup ys)] => .ok (pairsP xs ys) s
  | _ => .bad
theorem walk_pairs {J : It} {Gs : Hp → Prop} {xs ys : List P} {vs us : List V} {n : Nat} (hn : n = min vs.length us.length) (wk : Walk J n Gs (YPair (fun i => vs[i]?) (fun i => us[i]?))) (hg : ∀ w1 H1, Mono w H w1 H1 → Gs H1) (t : TdL X.K false H w.I xs vs) (t2 : TdL X.K false H w.I ys us) : WalkD X G w H J (pairsP xs ys) := by
  have hl : (pairsP xs ys).length = n := by unfold pairsP; rw [List.length_zipWith, t.len, t2.len, hn]
  refine ⟨Gs, _, by rw [hl]; exact wk, hg, fun i H0 x H1 w0 hi m0 _ y => ?_⟩
  obtain ⟨T, a, b, rfl, nT, rfl, e1, e2⟩ := y
  refine ⟨.inr ⟨T, _, nT, rfl⟩, fun w1 m1 _ => ?_⟩
  have lx : i < xs.length := by unfold pairsP at hi; rw [List.length_zipWith] at hi; omega
  have ly : i < ys.length := by unfold pairsP at hi; rw [List.length_zipWith] at hi; omega
  obtain ⟨v1, f1, h1⟩ := t.at (x := xs[i]) (i := i) (by simp [lx])
  obtain ⟨v2, f2, h2⟩ := t2.at (x := ys[i]) (i := i) (by simp [ly])
  rw [show vs[i]? = some a from e1] at f1
  rw [show us[i]? = some b from e2] at f2
  cases f1; cases f2
  have mm := m0.trans m1
  refine ⟨.p (.tup [xs[i], ys[i]]), by unfold pairsP; rw [List.getElem?_zipWith]; simp [lx, ly], .p (.tup upd_same (.cons (h1.mono mm.imm) (.cons (h2.mono mm.imm) .nil)))⟩
theorem di_zip (hg : Gl X "zip") (hm : X.mg "zip" = none) (ha : DA X G [e, e2] fa)
    (hs : starEach [e, e2] X.env = (false, eval e X.env) :: starEach [e2] X.env := by rfl) (hpl : (backTo pos (starEach [e2] X.env)).any (·.1) = false := by rfl) : DI X G (.Tuple elts kk tpos) (.Call (.Name "zip" p) [e, e2] [] pos) (bnd fa zipR) :=
  PIi (RZ.pi_zipA hg hm ha hs hpl) fun σ H R ⟨w, s, W, h⟩ => ⟨w, s, W, PostI.bind (RR := RA X) h fun ds s1 vs w1 H1 m1 W1 r1 h => by
    unfold zipR at h
    split at h
    · rename_i xs ys
      cases r1 with
      | cons a r => cases r with
        | cons b r => cases r with
          | nil =>
            cases a with
            | p a => cases b with
              | p b => cases a with
                | lst h1 h2 t => cases b with
                  | lst h3 h4 t2 => exact ⟨_, _, _, _, rfl, .inl ⟨.of h1, .of h3, h w1 H1 _ .refl W1 (walk_pairs rfl (walk_zip rfl) (fun w2 H2 m2 => ⟨.of (m2.imm.at' _ _ h2 h1).2, .of (m2.imm.at' _ _ h4 h3).2⟩) t t2)⟩⟩
    · rename_i xs ys
      cases r1 with
      | cons a r => cases r with
        | cons b r => cases r with
          | nil =>
            cases a with
            | p a => cases b with
              | p b => cases a with
                | tupK z _ _ => cases z
                | @tup a1 _ us1 h1 t => cases b with
                  | tupK z _ _ => cases z
                  | @tup b1 _ us2 h3 t2 =>
                    refine ⟨_, _, _, _, rfl, .inr ⟨.of h1, .of h3, h w1 H1 _ .refl W1 (walk_pairs (Gs := fun H => SqT X.K H a1 us1 ∧ SqT X.K H b1 us2) rfl ⟨fun i H hi q => ?_, fun H q => ⟨us1, us2, q.1, q.2, by omega⟩, fun i H v H' hi q y => ?_⟩ (fun w2 H2 m2 => ⟨.of (m2.imm.tup _ _ h1), .of (m2.imm.tup _ _ h3)⟩) t t2)⟩⟩
                    · have l1 : i < us1.length := by omega
                      have l2 : i < us2.length := by omega
                      exact ⟨us1, us2, us1[i], us2[i], q.1, q.2, by simp [l1], by simp [l2]⟩
                    · obtain ⟨T, x, z, k1, k2, k3, k4, k5⟩ := y
                      exact ⟨T, x, z, k1, k2, k3, k4 _ q.1, k5 _ q.2⟩
    · exact h.elim⟩
end
end Dz
namespace Dz
open PySem PySem.Spec PyProof.Rows L2
/-! ### models are run: plain facts -/
section
variable {α β : Type} {s s1 s2 : Sta} {sl : List Sl} {st : Option (List MO)} {d d1 d2 : D} {i : Nat} {a : α}
theorem bnd_ok {f : Sta → Res α} {g : α → Sta → Res β} (h : f s = .ok a s1) : bnd f g s = g a s1 := by unfold bnd; rw [h]
theorem bnd2_ok {f g : Ev} {k : D → D → Ev} (h : f s = .ok d1 s1) (h2 : g s1 = .ok d2 s2) : bnd2 f g k s = k d1 d2 s2 := by unfold bnd2; rw [bnd_ok h, bnd_ok h2]
theorem bndS_ok {f : Sta → Res α} {k : α → Ex} (h : f s = .ok a s1) : bndS f k s = k a s1 := by unfold bndS; rw [h]
theorem seqS_nx {f g : Ex} (h : f s = .nx s1) : seqS f g s = g s1 := by unfold seqS; rw [h]
theorem seqS_ret {f g : Ex} (h : f s = .ret d s1) : seqS f g s = .ret d s1 := by unfold seqS; rw [h]
theorem rd_v (h : sl[i]? = some (.v d)) : rd i ⟨sl, st⟩ = .ok d ⟨sl, st⟩ := by unfold rd; simp only [h]
theorem pk_v (h : sl[i]? = some (.v d)) : pk i ⟨sl, st⟩ = .ok (.d d) ⟨sl, st⟩ := by unfold pk; simp only [h]
theorem pk_lin0 {m : Lin} (h : sl[i]? = some (.lin m)) : pk i ⟨sl, st⟩ = .ok (.lin m) ⟨sl, st⟩ := by unfold pk; simp only [h]
theorem consA_ok {f : Ev} {g : Sta → Res (List D)} {ds : List D} (h : f s = .ok d s1) (h2 : g s1 = .ok ds s2) : consA f g s = .ok (d :: ds) s2 := by unfold consA; rw [bnd_ok h, bnd_ok h2]
theorem callS_ok {m : Fn} {fa : Sta → Res (List D)} {ds : List D} {s3 : Sta} (h : fa s = .ok ds s1) (h2 : m ds s1.st = .ok d s3) : callS m fa s = .ok d ⟨s1.sl, s3.st⟩ := by unfold callS; rw [bnd_ok h, h2]
theorem callP_ok {m : Fn} {fa : Sta → Res (List D)} {ds : List D} {s3 : Sta} {d' : D} (h : fa s = .ok ds s1) (hn : ds.all noLoc = true) (h2 : m ds (some []) = .ok d s3) (h3 : outD d s3.st = some d') : callP m fa s = .ok d' s1 := by
  unfold callP; rw [bnd_ok h, if_pos hn, h2]; simp only [h3]
theorem ifS_t {t : Sta → Res Bool} {g h : Ex} (ht : t s = .ok true s1) : ifS t g h s = g s1 := by unfold ifS; rw [bndS_ok ht, if_pos rfl]
theorem ifS_f {t : Sta → Res Bool} {g h : Ex} (ht : t s = .ok false s1) : ifS t g h s = h s1 := by unfold ifS; rw [bndS_ok ht, if_neg (by decide)]
theorem loop_nil {t : Tg} {b : Ex} : loopS t b [] s = .nx s := rfl
theorem loop_cons {t : Tg} {b : Ex} {ds : List D} (ht : t d s = some s1) (hb : b s1 = .nx s2) : loopS t b (d :: ds) s = loopS t b ds s2 := by simp only [loopS, ht, hb]
/-- a loop by its invariant, which may count -/
theorem loop_inv {t : Tg} {b : Ex} (I : Nat → Sta → Prop) : ∀ (ds : List D) (n : Nat) (s : Sta), (∀ k d s, ds[k]? = some d → I (n + k) s → ∃ s1 s2, t d s = some s1 ∧ (b s1 = .nx s2 ∨ b s1 = .cnt s2) ∧ I (n + k + 1) s2) → I n s → ∃ s', loopS t b ds s = .nx s' ∧ I (n + ds.length) s'
  | [], n, s, _, hs => ⟨s, rfl, hs⟩
  | d :: ds, n, s, h, hs => by
    obtain ⟨s1, s2, e1, e2, h2⟩ := h 0 d s rfl hs
    obtain ⟨s', e3, h3⟩ := loop_inv (t := t) (b := b) I ds (n + 1) s2 (fun k d s e hi => by
      have := h (k + 1) d s (by simpa using e) (by rw [show n + (k + 1) = n + 1 + k by omega]; exact hi)
      rw [show n + (k + 1) + 1 = n + 1 + k + 1 by omega] at this
      exact this) h2
    refine ⟨s', ?_, by rw [List.length_cons, show n + (ds.length + 1) = n + 1 + ds.length by omega]; exact h3⟩
    simp only [loopS, e1]
    rcases e2 with e2 | e2 <;> simp only [e2] <;> exact e3
theorem forS_inv {fi : Sta → Res (List D)} {t : Tg} {b : Ex} {ds : List D} (I : Nat → Sta → Prop) (hf : fi s = .ok ds s1) (h : ∀ k d s, ds[k]? = some d → I k s → ∃ s1 s2, t d s = some s1 ∧ (b s1 = .nx s2 ∨ b s1 = .cnt s2) ∧ I (k + 1) s2) (hs : I 0 s1) :
    ∃ s', forS fi t b s = .nx s' ∧ I ds.length s' := by
  unfold forS
  rw [bndS_ok hf]
  have := loop_inv (t := t) (b := b) I ds 0 s1 (fun k d s e hi => by have := h k d s e (by simpa using hi); simpa using this) hs
  simpa using this
theorem rngL_at {lo : Int} {n k : Nat} {d : D} (h : (rngL lo n)[k]? = some d) : k < n ∧ d = .p (.int (lo + (k : Nat))) := by
  unfold rngL at h
  rw [List.getElem?_map] at h
  obtain ⟨j, ej, rfl⟩ := Option.map_eq_some_iff.mp h
  rw [List.getElem?_eq_some_iff] at ej
  obtain ⟨hl, ej⟩ := ej
  rw [List.length_range] at hl
  rw [List.getElem_range] at ej
  subst ej
  exact ⟨hl, rfl⟩
/-- a comprehension by its invariant -/
theorem lc_inv {sl : List Sl} {t : Tg} {fe : Ev} (I : Option (List MO) → Prop) (P : Dz.P → Prop) : ∀ (ds : List D) (acc : List Dz.P) (st : Option (List MO)), (∀ d st, d ∈ ds → I st → ∃ s1 x s2, t d ⟨sl, st⟩ = some s1 ∧ fe s1 = .ok (.p x) s2 ∧ P x ∧ I s2.st) → (∀ x ∈ acc, P x) → acc.length + ds.length ≤ sizeLine → I st →
    ∃ xs st', lcGo sl t yesT fe ds acc st = some (xs, st') ∧ xs.length = acc.length + ds.length ∧ (∀ x ∈ xs, P x) ∧ I st'
  | [], acc, st, _, ha, _, hi => ⟨acc, st, rfl, rfl, ha, hi⟩
  | d :: ds, acc, st, h, ha, hl, hi => by
    obtain ⟨s1, x, s2, e1, e2, hx, hi2⟩ := h d st (List.mem_cons_self ..) hi
    rw [List.length_cons] at hl
    obtain ⟨xs, st', e3, l3, h3, i3⟩ := lc_inv (sl := sl) (t := t) (fe := fe) I P ds (acc ++ [x]) s2.st (fun d st hd hi => h d st (List.mem_cons_of_mem _ hd) hi) (fun y hy => by
      rcases List.mem_append.mp hy with hy | hy
      · exact ha y hy
      · rw [List.mem_singleton] at hy; subst hy; exact hx) (by rw [List.length_append, List.length_singleton]; omega) hi2
    refine ⟨xs, st', ?_, by rw [l3]; simp only [List.length_append, List.length_cons, List.length_nil]; omega, h3, i3⟩
    simp only [lcGo, e1]
    simp only [yesT, e2]
    rw [if_pos (by omega)]
    exact e3
theorem lcF_inv {fi : Sta → Res (List D)} {own : List Nat} {t : Tg} {fe : Ev} {ds : List D} (I : Option (List MO) → Prop) (P : Dz.P → Prop) (hf : fi s = .ok ds s1)
    (h : ∀ d st, d ∈ ds → I st → ∃ s2 x s3, t d ⟨inSl own s1.sl, st⟩ = some s2 ∧ fe s2 = .ok (.p x) s3 ∧ P x ∧ I s3.st) (hl : ds.length ≤ sizeLine) (hi : I s1.st) :
    ∃ xs st', lcF fi own t yesT fe s = .ok (.lst xs) ⟨s1.sl, st'⟩ ∧ xs.length = ds.length ∧ (∀ x ∈ xs, P x) ∧ I st' := by
  obtain ⟨xs, st', e, l, h1, h2⟩ := lc_inv (sl := inSl own s1.sl) (t := t) (fe := fe) I P ds [] s1.st h (fun _ z => nomatch z) (by simpa using hl) hi
  refine ⟨xs, st', ?_, by simpa using l, h1, h2⟩
  unfold lcF
  rw [bnd_ok hf, e]
end
end Dz
namespace Dz
open PySem PySem.Spec PyProof.Rows L2
/-! ### expressions that leave the state as it is -/
abbrev EvD (f : Ev) (s : Sta) (d : D) : Prop := f s = .ok d s
abbrev EvI (f : Ev) (s : Sta) (i : Int) : Prop := f s = .ok (.p (.int i)) s
abbrev EvB (f : Ev) (s : Sta) (b : Bool) : Prop := f s = .ok (.p (.bl b)) s
abbrev EvT (f : Sta → Res Bool) (s : Sta) (b : Bool) : Prop := f s = .ok b s
section
variable {s : Sta} {f g h : Ev} {d e x : D} {i j k : Int} {n : Nat} {b c : Bool} {t u : Sta → Res Bool}
theorem ed_cst : EvD (cst d) s d := rfl
theorem ed_rd (h : s.sl[n]? = some (.v d)) : EvD (rd n) s d := by cases s; exact rd_v h
theorem ed_add (hf : EvI f s i) (hg : EvI g s j) : EvI (bnd2 f g addD) s (i + j) := by unfold EvI; rw [bnd2_ok hf hg]; rfl
theorem ed_sub (hf : EvI f s i) (hg : EvI g s j) : EvI (bnd2 f g subD) s (i - j) := by unfold EvI; rw [bnd2_ok hf hg]; rfl
theorem okIf_ok (hc : c = true) : okIf c d s = .ok d s := by unfold okIf; rw [if_pos hc]
theorem ed_mul (hf : EvI f s i) (hg : EvI g s j) (hc : cMul i j = true) : EvI (bnd2 f g mulD) s (i * j) := by unfold EvI; rw [bnd2_ok hf hg]; exact okIf_ok hc
theorem ed_mod (hf : EvI f s i) (hg : EvI g s j) (hc : j ≠ 0) : EvI (bnd2 f g modD) s (i.fmod j) := by unfold EvI; rw [bnd2_ok hf hg]; exact okIf_ok (by simpa using hc)
theorem ed_fdiv (hf : EvI f s i) (hg : EvI g s j) (hc : (decide (j ≠ 0) && decide (j.natAbs < 1073741824)) = true) : EvI (bnd2 f g fdivD) s (i.fdiv j) := by unfold EvI; rw [bnd2_ok hf hg]; exact okIf_ok hc
theorem ed_pow (hf : EvI f s i) (hg : EvI g s j) (hc : cPow i j = true) : EvI (bnd2 f g powD) s (i ^ j.toNat) := by unfold EvI; rw [bnd2_ok hf hg]; exact okIf_ok hc
theorem ed_neg (hf : EvI f s i) : EvI (bnd f negD) s (-i) := by unfold EvI; rw [bnd_ok hf]; rfl
theorem ep_as (hf : EvD f s d) : asPk f s = .ok (.d d) s := by unfold asPk; rw [bnd_ok hf]
theorem ep_pk (h : s.sl[n]? = some (.v d)) : pk n s = .ok (.d d) s := by cases s; exact pk_v h
theorem ep_lin {m : Lin} (h : s.sl[n]? = some (.lin m)) : pk n s = .ok (.lin m) s := by unfold pk; simp only [h]
theorem ed_fn {fp : Sta → Res Pk} {k : Pk → Sta → Option P} {p : Pk} {y : P} (hf : fp s = .ok p s) (hk : k p s = some y) : EvD (bnd fp (fnK k)) s (.p y) := by unfold EvD; rw [bnd_ok hf]; unfold fnK; rw [hk]
theorem ed_int {fp : Sta → Res Pk} (hf : fp s = .ok (.d (.p (.int i))) s) : EvI (bnd fp (fnK intP)) s i := ed_fn hf rfl
theorem ed_abs {fp : Sta → Res Pk} (hf : fp s = .ok (.d (.p (.int i))) s) : EvI (bnd fp (fnK absP)) s (if i < 0 then -i else i) := ed_fn hf rfl
theorem lenP_seq {d : D} {ds : List D} (hs : seqOf d s = some ds) : lenP (.d d) s = some (.int ds.length) := by
  unfold lenP
  split
  · rename_i x e; cases e; unfold seqOf at hs; cases hs
  · show (match seqOf d s with | some ds => _ | none => _) = _
    rw [hs]
theorem ed_len {fp : Sta → Res Pk} {ds : List D} (hf : fp s = .ok (.d d) s) (hs : seqOf d s = some ds) : EvI (bnd fp (fnK lenP)) s ds.length := ed_fn hf (lenP_seq hs)
theorem ed_lenL {fp : Sta → Res Pk} {xs : List P} (hf : fp s = .ok (.lin (.lst xs)) s) : EvI (bnd fp (fnK lenP)) s xs.length := ed_fn hf (by show some (P.int ((xs.map D.p).length)) = _; rw [List.length_map])
theorem ed_ixV (h : s.sl[n]? = some (.v d)) (hg : EvD g s e) (hx : ixO d e s = some x) : EvD (ixV n g) s x := by
  unfold EvD ixV
  rw [bnd_ok (ep_pk h), bnd_ok hg, bnd_ok (ep_pk h)]
  show (match ixO d e s with | some x => Res.ok x s | none => .bad) = _
  rw [hx]
theorem ed_ix (hf : EvD f s d) (hg : EvD g s e) (hx : ixO d e s = some x) : EvD (bnd2 f g ixD) s x := by unfold EvD; rw [bnd2_ok hf hg]; unfold ixD; rw [hx]
theorem eb_int {c : Int → Int → Bool} {op : D → D → Ev} (ho : op = intOp (fun _ _ => true) fun i j => .bl (c i j)) (hf : EvI f s i) (hg : EvI g s j) : EvB (bnd2 f g op) s (c i j) := by subst ho; unfold EvB; rw [bnd2_ok hf hg]; rfl
theorem eb_lt (hf : EvI f s i) (hg : EvI g s j) : EvB (bnd2 f g ltD) s (decide (i < j)) := eb_int (c := fun i j => decide (i < j)) rfl hf hg
theorem eb_le (hf : EvI f s i) (hg : EvI g s j) : EvB (bnd2 f g leD) s (decide (i ≤ j)) := eb_int (c := fun i j => decide (i ≤ j)) rfl hf hg
theorem eb_gt (hf : EvI f s i) (hg : EvI g s j) : EvB (bnd2 f g gtD) s (decide (j < i)) := eb_int (c := fun i j => decide (j < i)) rfl hf hg
theorem eb_ge (hf : EvI f s i) (hg : EvI g s j) : EvB (bnd2 f g geD) s (decide (j ≤ i)) := eb_int (c := fun i j => decide (j ≤ i)) rfl hf hg
theorem et_b (hf : EvB f s b) : EvT (bnd f isBl) s b := by unfold EvT; rw [bnd_ok hf]; rfl
theorem eb_eq {y z : P} (hf : EvD f s (.p y)) (hg : EvD g s (.p z)) (hd : min (deep y) (deep z) ≤ 60) : EvB (bnd2 f g eqD) s (eqP y z) := by
  unfold EvB; rw [bnd2_ok hf hg]; unfold eqD cmpP
  show (match (if min (deep y) (deep z) ≤ 60 then some (eqP y z) else none) with | some b => Res.ok (D.p (.bl b)) s | none => .bad) = _
  rw [if_pos hd]
theorem eb_ne {y z : P} (hf : EvD f s (.p y)) (hg : EvD g s (.p z)) (hd : min (deep y) (deep z) ≤ 60) : EvB (bnd2 f g neD) s (!eqP y z) := by
  unfold EvB; rw [bnd2_ok hf hg]; unfold neD cmpP
  show (match (if min (deep y) (deep z) ≤ 60 then some (!eqP y z) else none) with | some b => Res.ok (D.p (.bl b)) s | none => .bad) = _
  rw [if_pos hd]
theorem eb_isnt (hf : EvB f s b) (hg : EvB g s c) : EvB (bnd2 f g isntD) s (!decide (b = c)) := by unfold EvB; rw [bnd2_ok hf hg]; rfl
theorem eb_is (hf : EvB f s b) (hg : EvB g s c) : EvB (bnd2 f g isD) s (decide (b = c)) := by unfold EvB; rw [bnd2_ok hf hg]; rfl
theorem eb_andT (hf : EvB f s true) (hg : EvD g s d) : EvD (andE f g) s d := by unfold EvD andE; rw [bnd_ok hf]; exact hg
theorem eb_andF (hf : EvB f s false) : EvB (andE f g) s false := by unfold EvB andE; rw [bnd_ok hf]; rfl
theorem eb_and (hf : EvB f s b) (hg : b = true → EvB g s c) : EvB (andE f g) s (b && c) := by
  cases b
  · exact eb_andF hf
  · exact eb_andT hf (hg rfl)
theorem eb_or (hf : EvB f s b) (hg : b = false → EvB g s c) : EvB (orE f g) s (b || c) := by
  cases b
  · unfold EvB orE; rw [bnd_ok hf]; exact hg rfl
  · unfold EvB orE; rw [bnd_ok hf]; rfl
theorem eb_not (hf : EvB f s b) : EvB (notE f) s (!b) := by unfold EvB notE; rw [bnd_ok hf]; rfl
theorem et_not (ht : EvT t s b) : EvT (notT t) s (!b) := by unfold EvT notT; rw [bnd_ok ht]
theorem et_and (ht : EvT t s b) (hu : b = true → EvT u s c) : EvT (andT t u) s (b && c) := by
  cases b
  · unfold EvT andT; rw [bnd_ok ht]; rfl
  · unfold EvT andT; rw [bnd_ok ht]; exact hu rfl
theorem et_or (ht : EvT t s b) (hu : b = false → EvT u s c) : EvT (orT t u) s (b || c) := by
  cases b
  · unfold EvT orT; rw [bnd_ok ht]; exact hu rfl
  · unfold EvT orT; rw [bnd_ok ht]; rfl
theorem et_pk (h : s.sl[n]? = some (.v (.p (.bl b)))) : EvT (bnd (pk n) truPR) s b := by unfold EvT; rw [bnd_ok (ep_pk h)]; rfl
theorem et_as (hf : EvB f s b) : EvT (bnd (asPk f) truPR) s b := by unfold EvT; rw [bnd_ok (ep_as hf)]; rfl
theorem ea_cons {fa : Sta → Res (List D)} {ds : List D} (hf : EvD f s d) (hg : fa s = .ok ds s) : consA f fa s = .ok (d :: ds) s := consA_ok hf hg
theorem ea_nil : nilA s = .ok [] s := rfl
theorem ed_callP {m : Fn} {fa : Sta → Res (List D)} {ds : List D} {s3 : Sta} {y : P} (h : fa s = .ok ds s) (hn : ds.all noLoc = true) (h2 : m ds (some []) = .ok (.p y) s3) : EvD (callP m fa) s (.p y) := callP_ok h hn h2 rfl
theorem ei_rng1 {fa : Sta → Res (List D)} {j : Int} (h : fa s = .ok [.p (.int j)] s) (h1 : 0 ≤ j) (h2 : j < 2 ^ 62) : bnd fa rng1 s = .ok (rngL 0 j.toNat) s := by
  rw [bnd_ok h]
  unfold rng1
  simp only
  rw [if_pos ⟨by omega, h2⟩]
theorem es_set (hf : EvD f s d) : bndS f (setV n) s = .nx ⟨s.sl.set n (.v d), s.st⟩ := by rw [bndS_ok hf]; rfl
theorem es_ret (hf : EvD f s d) : bndS f retS s = .ret d s := by rw [bndS_ok hf]; rfl
theorem es_ifT {p q : Ex} (ht : EvT t s true) : ifS t p q s = p s := ifS_t ht
theorem es_ifF {p q : Ex} (ht : EvT t s false) : ifS t p q s = q s := ifS_f ht
theorem es_app {xs : List P} {y : P} (h : s.sl[n]? = some (.lin (.lst xs))) (hf : EvD f s (.p y)) (hl : xs.length < sizeLine) : appV n f s = .nx ⟨s.sl.set n (.lin (.lst (xs ++ [y]))), s.st⟩ := by
  unfold appV
  rw [bndS_ok (ep_lin h), if_pos ⟨rfl, rfl⟩, bndS_ok hf, bndS_ok (ep_lin h)]
  show (match (if xs.length < sizeLine then some (⟨s.sl.set n (.lin (.lst (xs ++ [y]))), s.st⟩ : Sta) else none) with | some s' => Fl.nx s' | none => .bad) = _
  rw [if_pos hl]
theorem runD_ret {m k : Nat} {g : Ex} {ds : List D} {st : Option (List MO)} {d : D} {s' : Sta} (hl : ds.length = m) (h : g ⟨ds.map .v ++ List.replicate k .un, st⟩ = .ret d s') : runD m g k ds st = .ok d s' := by unfold runD; rw [if_pos hl, h]; rfl
end
end Dz
namespace Dz
open PySem PySem.Spec PyProof.Rows L2
section
variable {s s1 s2 s3 : Sta} {f g h : Ev} {d e x : D} {i j k : Int} {n : Nat} {b c : Bool} {t u : Sta → Res Bool}
theorem ed_isi {T : Ty5} {x : P} {fp : Sta → Res Pk} (hf : fp s = .ok (.d (.p x)) s) : EvB (bnd fp (fnK (isiP T))) s (isiB x T) := ed_fn hf rfl
theorem mapM_unP : ∀ ys : List P, (ys.map D.p).mapM unP = some ys
  | [] => rfl
  | y :: ys => by rw [List.map_cons, List.mapM_cons, mapM_unP ys]; rfl
theorem eb_in {x : P} {ys : List P} {fp : Sta → Res Pk} (hf : EvD f s (.p x)) (hk : fp s = .ok (.d (.p (.lst ys))) s) (hd : min (deep x) (deepL ys) ≤ 60) : EvB (inE false f fp) s (ys.any fun z => eqP z x) := by
  unfold EvB inE
  rw [bnd_ok hf, bnd_ok hk]
  unfold inPD
  have e : inPk (.p x) (.d (.p (.lst ys))) s = some (ys.any fun z => eqP z x) := by
    show inB (.p x) (.p (.lst ys)) s = _
    have e2 := mapM_unP ys
    unfold inB
    cases x <;> simp only [seqOf, e2] <;> rw [if_pos hd]
  rw [e]
  rfl
theorem ixV_st {i : Nat} {d e x : D} (h : s.sl[i]? = some (.v d)) (hg : g s = .ok e s2) (h2 : s2.sl[i]? = some (.v d)) (hx : ixO d e s2 = some x) : ixV i g s = .ok x s2 := by
  unfold ixV
  rw [bnd_ok (ep_pk h), bnd_ok hg, bnd_ok (ep_pk h2)]
  show (match ixO d e s2 with | some x => Res.ok x s2 | none => .bad) = _
  rw [hx]
theorem mkTup_ok {xs : List P} (h : xs.length ≤ sizeLine) : mkTup (xs.map .p) s = .ok (.p (.tup xs)) s := by
  have e2 := mapM_unP xs
  unfold mkTup
  rw [if_pos (by simpa using h)]
  simp only [e2]
end
end Dz
namespace Dz
open PySem PySem.Spec PyProof.Rows L2
/-! ### statements by what is wanted behind them -/
structure Po where
  nx : Sta → Prop
  rt : D → Sta → Prop
  ct : Sta → Prop
  bk : Sta → Prop
def Wp (r : Fl) (Q : Po) : Prop := match r with
  | .nx s => Q.nx s
  | .ret d s => Q.rt d s
  | .cnt s => Q.ct s
  | .brk s => Q.bk s
  | _ => False
section
variable {α : Type} {s s1 s2 s3 : Sta} {f g h : Ex} {d e x : D} {i j k : Int} {n : Nat} {b c : Bool} {t u : Sta → Res Bool} {Q Q' : Po} {fe ge : Ev} {a : α}
theorem Wp.mono {r : Fl} (h : Wp r Q) (h1 : ∀ s, Q.nx s → Q'.nx s) (h2 : ∀ d s, Q.rt d s → Q'.rt d s) (h3 : ∀ s, Q.ct s → Q'.ct s) (h4 : ∀ s, Q.bk s → Q'.bk s) : Wp r Q' := by
  cases r with
  | nx s => exact h1 _ h
  | ret d s => exact h2 _ _ h
  | cnt s => exact h3 _ h
  | brk s => exact h4 _ h
  | ex _ _ => exact h.elim
  | bad => exact h.elim
theorem wp_eq {r r' : Fl} (e : r = r') (h : Wp r' Q) : Wp r Q := by rw [e]; exact h
theorem wp_skip (h : Q.nx s) : Wp (skip s) Q := h
theorem wp_brk (h : Q.bk s) : Wp (brkS s) Q := h
theorem wp_cnt (h : Q.ct s) : Wp (cntS s) Q := h
theorem wp_seq (h : Wp (f s) ⟨fun s1 => Wp (g s1) Q, Q.rt, Q.ct, Q.bk⟩) : Wp (seqS f g s) Q := by
  unfold seqS
  revert h
  cases f s <;> exact id
theorem wp_bnd {fe : Sta → Res α} {k : α → Ex} (he : fe s = .ok a s1) (h : Wp (k a s1) Q) : Wp (bndS fe k s) Q := by rw [bndS_ok he]; exact h
theorem wp_set (he : EvD fe s d) (h : Q.nx ⟨s.sl.set n (.v d), s.st⟩) : Wp (bndS fe (setV n) s) Q := wp_bnd he h
theorem wp_ret (he : EvD fe s d) (h : Q.rt d s) : Wp (bndS fe retS s) Q := wp_bnd he h
theorem wp_if (ht : t s = .ok b s1) (h1 : b = true → Wp (f s1) Q) (h2 : b = false → Wp (g s1) Q) : Wp (ifS t f g s) Q := by
  unfold ifS
  rw [bndS_ok ht]
  cases b
  · exact h2 rfl
  · exact h1 rfl
theorem wp_loop {t : Tg} {b : Ex} (I : Nat → Sta → Prop) : ∀ (ds : List D) (n : Nat) (s : Sta), (∀ k d s, ds[k]? = some d → I (n + k) s → ∃ s1, t d s = some s1 ∧ Wp (b s1) ⟨I (n + k + 1), Q.rt, I (n + k + 1), Q.nx⟩) → I n s → (∀ s, I (n + ds.length) s → Q.nx s) → Wp (loopS t b ds s) Q
  | [], n, s, _, hs, hq => hq s hs
  | d :: ds, n, s, h, hs, hq => by
    obtain ⟨s1, e1, h1⟩ := h 0 d s rfl hs
    simp only [loopS, e1]
    have go : ∀ s2, I (n + 1) s2 → Wp (loopS t b ds s2) Q := fun s2 h2 => wp_loop I ds (n + 1) s2 (fun k d s e hi => by
      have := h (k + 1) d s (by simpa using e) (by rw [show n + (k + 1) = n + 1 + k by omega]; exact hi)
      rw [show n + (k + 1) + 1 = n + 1 + k + 1 by omega] at this
      exact this) h2 fun s hi => hq s (by rw [List.length_cons, show n + (ds.length + 1) = n + 1 + ds.length by omega]; exact hi)
    revert h1
    cases b s1 with
    | nx s2 => exact fun h1 => go s2 h1
    | cnt s2 => exact fun h1 => go s2 h1
    | brk s2 => exact id
    | ret d s2 => exact id
    | ex _ _ => exact id
    | bad => exact id
theorem wp_for {fi : Sta → Res (List D)} {t : Tg} {b : Ex} {ds : List D} (I : Nat → Sta → Prop) (hf : fi s = .ok ds s1) (h0 : I 0 s1) (h : ∀ k d s, ds[k]? = some d → I k s → ∃ s1, t d s = some s1 ∧ Wp (b s1) ⟨I (k + 1), Q.rt, I (k + 1), Q.nx⟩) (hq : ∀ s, I ds.length s → Q.nx s) : Wp (forS fi t b s) Q := by
  unfold forS
  rw [bndS_ok hf]
  exact wp_loop I ds 0 s1 (fun k d s e hi => by have := h k d s e (by simpa using hi); simpa using this) h0 (by simpa using hq)
/-- a walk over range(j) -/
theorem wp_rng {fa : Sta → Res (List D)} {i : Nat} {b : Ex} {j : Nat} (I : Nat → Sta → Prop) (hf : fa s = .ok [.p (.int j)] s1) (hj : j < 2 ^ 62) (h0 : I 0 s1) (h : ∀ k s, k < j → I k s → Wp (b ⟨s.sl.set i (.v (.p (.int k))), s.st⟩) ⟨I (k + 1), Q.rt, I (k + 1), Q.nx⟩) (hq : ∀ s, I j s → Q.nx s) : Wp (forS (bnd fa rng1) (nameG i) b s) Q := by
  refine wp_for (ds := rngL 0 j) I ?_ h0 (fun k d s ek hi => ?_) fun s hi => hq s (by rwa [rngL_len] at hi)
  · rw [bnd_ok hf]
    unfold rng1
    simp only
    rw [if_pos ⟨by omega, by omega⟩]
    rfl
  · obtain ⟨hk, rfl⟩ := rngL_at ek
    refine ⟨_, rfl, ?_⟩
    rw [Int.zero_add]
    exact h k s hk hi
theorem wp_while {t : Sta → Res Bool} {b : Ex} (I : Sta → Prop) (μ : Sta → Nat) (h : ∀ s, I s → (∃ s1, t s = .ok false s1 ∧ Q.nx s1) ∨ ∃ s1, t s = .ok true s1 ∧ Wp (b s1) ⟨fun s2 => I s2 ∧ μ s2 < μ s, Q.rt, fun s2 => I s2 ∧ μ s2 < μ s, Q.nx⟩) : ∀ (n : Nat) (s : Sta), I s → μ s < n → Wp (whileS t b n s) Q
  | 0, _, _, hm => by omega
  | n + 1, s, hs, hm => by
    rw [whileS]
    rcases h s hs with ⟨s1, e, hq⟩ | ⟨s1, e, hb⟩
    · rw [bndS_ok e]; exact hq
    · rw [bndS_ok e, if_pos rfl]
      revert hb
      cases b s1 with
      | nx s2 => exact fun hb => wp_while I μ h n s2 hb.1 (by have := hb.2; omega)
      | cnt s2 => exact fun hb => wp_while I μ h n s2 hb.1 (by have := hb.2; omega)
      | brk s2 => exact id
      | ret d s2 => exact id
      | ex _ _ => exact id
      | bad => exact id
theorem wp_app {xs : List P} {y : P} (h : s.sl[n]? = some (.lin (.lst xs))) (hf : EvD fe s (.p y)) (hl : xs.length < sizeLine) (hq : Q.nx ⟨s.sl.set n (.lin (.lst (xs ++ [y]))), s.st⟩) : Wp (appV n fe s) Q := by rw [es_app h hf hl]; exact hq
/-- a def from its body -/
def RetO (R : D → Sta → Prop) : Po := ⟨fun s => R (.p .non) s, R, fun _ => False, fun _ => False⟩
theorem run_wp {m k : Nat} {g : Ex} {ds : List D} {st : Option (List MO)} {R : D → Sta → Prop} (hl : ds.length = m) (h : Wp (g ⟨ds.map .v ++ List.replicate k .un, st⟩) (RetO R)) : ∃ d s, runD m g k ds st = .ok d s ∧ R d s := by
  unfold runD
  rw [if_pos hl]
  revert h
  cases g ⟨ds.map .v ++ List.replicate k .un, st⟩ with
  | nx s => exact fun h => ⟨_, _, rfl, h⟩
  | ret d s => exact fun h => ⟨_, _, rfl, h⟩
  | cnt s => exact fun h => h.elim
  | brk s => exact fun h => h.elim
  | ex _ _ => exact fun h => h.elim
  | bad => exact fun h => h.elim
end
end Dz
namespace Dz
open PySem PySem.Spec PyProof.Rows L2
section
variable {K : PySem.W.Frag} {h : Heap} {mg : Str → Option Value}
/-! ### from what the top leaves to the promises -/
/-- what k_is tells of a def -/
structure DefK (K : PySem.W.Frag) (x : Str) (st : Stmt) (f : Addr) (oc kV dc pm cd ct : Value) (od an : Option Addr) (sl : Array (Option Value)) : Prop where
  a : PySem.W.nsIn K mainGlobals x = some (some (.ref f))
  l : K.lookup f = some ⟨oc, od, .func (PySem.W.fnOf x x (defArgs st) (defBody st) (defScope st) .none kV dc pm an cd ct), sl⟩
  c : PySem.W.codeIn K cd x = true
  k : PySem.W.keepIn K (.ref f) = true
theorem DefK.here {x : Str} {st : Stmt} {f : Addr} {oc kV dc pm cd ct : Value} {od an : Option Addr} {sl : Array (Option Value)} {ps : List Str} (D : DefK K x st f oc kV dc pm cd ct od an sl) (X : K.In h) (G : h.Ns mainGlobals mg)
    (hb : ∀ (kV doc pm : Value) (an : Option Addr) (cdv ct : Value) (us : List Value), us.length = ps.length → bindArgs (PySem.W.fnOf x x (defArgs st) (defBody st) (defScope st) .none kV doc pm an cdv ct) ⟨us, []⟩ = pure (ps.zip us)) : HereD K mg x st ps := by
  have F := fun_mk (st := st) D.l D.c D.k
  exact ⟨f, _, F, PySem.W.mg_of X G D.a, F.binds hb⟩
def atomV : P → Option V
  | .non => some .non
  | .bl b => some (.bl b)
  | .int i => some (.int i)
  | .str x => some (.str x)
  | _ => none
theorem atom_td {q : Bool} {H : Hp} {I : Addr → Prop} : ∀ {x : P} {v : V}, atomV x = some v → Td K q H I x v
  | .non, _, e => by cases e; exact .non
  | .bl b, _, e => by cases e; exact .bl b
  | .int i, _, e => by cases e; exact .int i
  | .str x, _, e => by cases e; exact .str x
  | .lst _, _, e => by cases e
  | .tup _, _, e => by cases e
theorem relV_abs {u : Value} {x : V} (e : absV u = some x) : RelV x u := by
  cases u <;> simp [absV] at e <;> subst e <;> first | rfl | exact ⟨_, rfl⟩
theorem vals_abs : ∀ {us : List Value} {xs : List V}, us.map absV = xs.map some → Vals xs us
  | [], [], _ => .nil
  | [], _ :: _, e => by cases e
  | _ :: _, [], e => by cases e
  | u :: us, x :: xs, e => by
    rw [List.map_cons, List.map_cons] at e
    injection e with e1 e2
    exact .cons (relV_abs e1) (vals_abs e2)
theorem atoms_td {q : Bool} {H : Hp} {I : Addr → Prop} : ∀ {xs : List P} {vs : List V}, xs.map atomV = vs.map some → TdL K q H I xs vs
  | [], [], _ => .nil
  | [], _ :: _, e => by cases e
  | _ :: _, [], e => by cases e
  | x :: xs, v :: vs, e => by
    rw [List.map_cons, List.map_cons] at e
    injection e with e1 e2
    exact .cons (atom_td e1) (atoms_td e2)
theorem cst_int {x : Str} {n : Int} {t : Tok} (X : K.In h) (G : h.Ns mainGlobals mg) (a : PySem.W.nsIn K mainGlobals x = some (some (.int n t))) : Cst K mg x (.p (.int n)) :=
  ⟨_, .int n, PySem.W.mg_of X G a, ⟨t, rfl⟩, fun _ _ => .p (.int n)⟩
theorem cst_str {x z z' : Str} {t : Tok} (X : K.In h) (G : h.Ns mainGlobals mg) (a : PySem.W.nsIn K mainGlobals x = some (some (.str z t))) (e : z = z') : Cst K mg x (.p (.str z')) := by
  subst e
  exact ⟨_, .str z, PySem.W.mg_of X G a, ⟨t, rfl⟩, fun _ _ => .p (.str z)⟩
theorem cst_tup {x : Str} {p : Addr} {dd : Option Addr} {its : Array Value} {n : Nat} {sl : Array (Option Value)} {xs : List P} (vs : List V) (X : K.In h) (G : h.Ns mainGlobals mg) (a : PySem.W.nsIn K mainGlobals x = some (some (.ref p)))
    (l : K.lookup p = some ⟨.type "tuple", dd, .seq its n, sl⟩) (e : its.toList.map absV = vs.map some) (e2 : xs.map atomV = vs.map some) (hz : decide (vs.length ≤ sizeLine) = true) : Cst K mg x (.kt xs) := by
  have hv := vals_abs e
  have hl := Paired.length hv
  refine ⟨_, .ref p, PySem.W.mg_of X G a, rfl, fun H w => .kt (vs := vs) (fun H => .inr ⟨_, its, n, l, rfl, rfl, ?_, hv⟩) fun H => atoms_td e2⟩
  have h2 := of_decide_eq_true hz
  rw [← Array.length_toList]
  omega
/-- the law's promise -/
def spLaw (K : PySem.W.Frag) : Sp := fun vs H Q _ => ∃ (a : Addr) (ns : List Int), vs = [.ref a] ∧ ns.length ≤ 63 ∧ Only H ∧ SqL K H a (ns.map V.int) ∧ ∀ H', Q (.bl true) H'
theorem ints_td {q : Bool} {H : Hp} {I : Addr → Prop} : ∀ ns : List Int, TdL K q H I (ns.map P.int) (ns.map V.int)
  | [] => .nil
  | n :: ns => .cons (.int n) (ints_td ns)
theorem law_sp {m : Fn} (hm : ∀ ns : List Int, ns.length ≤ 63 → ∃ s, m [.fz (ns.map .int)] (some []) = .ok (.p (.bl true)) s) {vs : List V} {H : Hp} {Q : VK} {E : XK} (h : spLaw K vs H Q E) : spD K mg m vs H Q E := by
  obtain ⟨a, ns, rfl, hl, hO, hS, hQ⟩ := h
  obtain ⟨s, e⟩ := hm ns hl
  refine ⟨⟨[], fun b => H b ≠ none⟩, [.fz (ns.map .int)], some [], ⟨.nil, fun _ z => (nomatch z), fun _ z => (nomatch z), fun b z => z⟩, ⟨rfl, fun n a m z => by simp at z⟩, .cons (.fz ?_ (ints_td ns)) .nil, ?_⟩
  · rcases hS with h | h
    · rcases h with h | ⟨o, h⟩
      · rcases hO a with z | ⟨o, xs, z⟩
        · rw [h] at z; cases z
        · rw [h] at z; cases z
      · exact .inl ⟨o, h, by show H a ≠ none; rw [h]; simp⟩
    · exact .inr fun H => .inr h
  · rw [e]
    intro v w' H' _ _ _ hv
    cases hv with
    | p t => cases t; exact hQ H'
theorem law_fn {P : Program} {w : World} {base : Heap} {lv : Nat} {fa : Addr} {fd : FuncData} {m : Fn} (hm : ∀ ns : List Int, ns.length ≤ 63 → ∃ s, m [.fz (ns.map .int)] (some []) = .ok (.p (.bl true)) s)
    (F : FnOk P w K mg base (L2.CX P w) lv fa fd ["script"] (spD K mg m)) : FnOk P w K mg base (L2.CX P w) lv fa fd ["script"] (spLaw K) :=
  ⟨fun vs H Q E h => F.1 vs H Q E (law_sp hm h), fun A outer s H args us vs Q E a b c d h => F.2 A outer s H args us vs Q E a b c d (law_sp hm h)⟩
theorem law_end {P : Program} {w : World} {base : Heap} {lv : Nat} {fa : Addr} {m : Fn} (hm : ∀ ns : List Int, ns.length ≤ 63 → ∃ s, m [.fz (ns.map .int)] (some []) = .ok (.p (.bl true)) s)
    (F : HasD P w K mg base lv "law" ["script"] m) (e : mg "law" = some (.ref fa)) : ∃ fd : FuncData, FnOk P w K mg base (L2.CX P w) lv fa fd ["script"] (spLaw K) := by
  obtain ⟨fa', fd, F1, e1, _, _⟩ := F.here
  rw [e] at e1
  cases e1
  exact ⟨fd, law_fn hm F1⟩
end
end Dz
namespace Dz
open PySem PySem.Spec PyProof.Rows L2
/-- a def's value, from an empty store of its own -/
def Gives (m : Fn) (ds : List D) (y : P) : Prop := ∃ s, m ds (some []) = .ok (.p y) s
def OnD (y : P) : Po := RetO fun d _ => d = .p y
section
variable {α : Type} {s s1 s2 s3 : Sta} {f g h : Ev} {d e x : D} {i j k : Int} {n : Nat} {b c : Bool} {t u : Sta → Res Bool} {Q Q' : Po} {sl : List Sl} {st : Option (List MO)}
theorem gives_wp {m k : Nat} {g : Ex} {ds : List D} {y : P} (hl : ds.length = m) (h : Wp (g ⟨ds.map .v ++ List.replicate k .un, some []⟩) (OnD y)) : Gives (runD m g k) ds y := by
  obtain ⟨d, s, e, rfl⟩ := run_wp hl h
  exact ⟨s, e⟩
theorem ed_call {m : Fn} {fa : Sta → Res (List D)} {ds : List D} {y : P} (h : fa s = .ok ds s) (g : Gives m ds y) (hn : ds.all noLoc = true) : EvD (callP m fa) s (.p y) := by
  obtain ⟨s3, e⟩ := g
  exact ed_callP h hn e
theorem eb_chain {k1 k2 : D → D → Ev} {c1 c2 : Int → Int → Bool} (h1 : k1 = intOp (fun _ _ => true) fun i j => .bl (c1 i j)) (h2 : k2 = intOp (fun _ _ => true) fun i j => .bl (c2 i j)) (hf : EvI f s i) (hg : EvI g s j) (hh : EvI h s k) : EvB (chainE f k1 g k2 h) s (c1 i j && c2 j k) := by
  subst h1; subst h2
  unfold EvB chainE
  rw [bnd_ok hf, bnd_ok hg]
  have e : intOp (fun _ _ => true) (fun i j => P.bl (c1 i j)) (.p (.int i)) (.p (.int j)) s = .ok (.p (.bl (c1 i j))) s := rfl
  rw [bnd_ok e]
  cases c1 i j
  · rfl
  · show bnd h _ s = _
    rw [bnd_ok hh]; rfl
theorem eb_leLt (hf : EvI f s i) (hg : EvI g s j) (hh : EvI h s k) : EvB (chainE f leD g ltD h) s (decide (i ≤ j) && decide (j < k)) := eb_chain (c1 := fun i j => decide (i ≤ j)) (c2 := fun i j => decide (i < j)) rfl rfl hf hg hh
theorem eb_leLe (hf : EvI f s i) (hg : EvI g s j) (hh : EvI h s k) : EvB (chainE f leD g leD h) s (decide (i ≤ j) && decide (j ≤ k)) := eb_chain (c1 := fun i j => decide (i ≤ j)) (c2 := fun i j => decide (i ≤ j)) rfl rfl hf hg hh
theorem eb_inT {x : P} {ys : List P} {fp : Sta → Res Pk} (hf : EvD f s (.p x)) (hk : fp s = .ok (.d (.p (.tup ys))) s) (hd : min (deep x) (deepL ys) ≤ 60) : EvB (inE false f fp) s (ys.any fun z => eqP z x) := by
  unfold EvB inE
  rw [bnd_ok hf, bnd_ok hk]
  unfold inPD
  have e : inPk (.p x) (.d (.p (.tup ys))) s = some (ys.any fun z => eqP z x) := by
    show inB (.p x) (.p (.tup ys)) s = _
    have e2 := mapM_unP ys
    unfold inB
    cases x <;> simp only [seqOf, e2] <;> rw [if_pos hd]
  rw [e]
  rfl
theorem eb_inK {x : P} {ys : List P} {fp : Sta → Res Pk} (hf : EvD f s (.p x)) (hk : fp s = .ok (.d (.kt ys)) s) (hy : (ys.map kitem).mapM unP = some ys) (hd : min (deep x) (deepL ys) ≤ 60) : EvB (inE false f fp) s (ys.any fun z => eqP z x) := by
  unfold EvB inE
  rw [bnd_ok hf, bnd_ok hk]
  unfold inPD
  have e : inPk (.p x) (.d (.kt ys)) s = some (ys.any fun z => eqP z x) := by
    show inB (.p x) (.kt ys) s = _
    unfold inB
    cases x <;> simp only [seqOf, hy] <;> rw [if_pos hd]
  rw [e]
  rfl
/-- reads that change nothing -/
theorem ed_if {t : Sta → Res Bool} (ht : EvT t s b) (h1 : b = true → EvD f s d) (h2 : b = false → EvD g s d) : EvD (ifE t f g) s d := by
  unfold EvD ifE
  rw [bnd_ok ht]
  cases b
  · exact h2 rfl
  · exact h1 rfl
theorem ed_bl_call {m : Fn} {fa : Sta → Res (List D)} {ds : List D} (h : fa s = .ok ds s) (g : Gives m ds (.bl b)) (hn : ds.all noLoc = true) : EvT (bnd (asPk (callP m fa)) truPR) s b := et_as (ed_call h g hn)
theorem eb_true (hf : EvB f s b) (h : b = c) : EvB f s c := by subst h; exact hf
theorem ix_tup {ys : List P} {n : Nat} {s : Sta} (h : n < ys.length) : ixO (.p (.tup ys)) (.p (.int n)) s = some (.p ys[n]) := by
  show atI (ys.map D.p) n = _
  unfold atI ixN
  rw [if_pos (by omega), if_pos (by simp; omega)]
  show (ys.map D.p)[((n : Nat) : Int).toNat]? = _
  rw [Int.toNat_natCast, List.getElem?_map, List.getElem?_eq_getElem h]
  rfl
theorem ix_lst {ys : List P} {n : Nat} {s : Sta} (h : n < ys.length) : ixO (.p (.lst ys)) (.p (.int n)) s = some (.p ys[n]) := by
  show atI (ys.map D.p) n = _
  unfold atI ixN
  rw [if_pos (by omega), if_pos (by simp; omega)]
  show (ys.map D.p)[((n : Nat) : Int).toNat]? = _
  rw [Int.toNat_natCast, List.getElem?_map, List.getElem?_eq_getElem h]
  rfl
theorem ix_t0 {y : P} {ys : List P} {s : Sta} : ixO (.p (.tup (y :: ys))) (.p (.int 0)) s = some (.p y) := ix_tup (n := 0) (by simp)
theorem ix_t1 {y z : P} {ys : List P} {s : Sta} : ixO (.p (.tup (y :: z :: ys))) (.p (.int 1)) s = some (.p z) := ix_tup (n := 1) (by simp)
/-- walks with a return -/
theorem wp_loopR {t : Tg} {b : Ex} {β : Type} {toD : β → D} (R : List β → Sta → Prop) {N : Sta → Prop} {V : D → Sta → Prop} (xs : List β) (s : Sta) (h0 : R xs s)
    (hs : ∀ x xs s, R (x :: xs) s → ∃ s1, t (toD x) s = some s1 ∧ Wp (b s1) ⟨R xs, V, R xs, N⟩) (he : ∀ s, R [] s → N s) {ct bk : Sta → Prop} : Wp (loopS t b (xs.map toD) s) ⟨N, V, ct, bk⟩ := by
  induction xs generalizing s with
  | nil => exact he s h0
  | cons x xs ih =>
    obtain ⟨s1, e1, h1⟩ := hs x xs s h0
    simp only [List.map_cons, loopS, e1]
    revert h1
    cases b s1 with
    | nx s2 => exact fun h1 => ih s2 h1
    | cnt s2 => exact fun h1 => ih s2 h1
    | brk s2 => exact id
    | ret d s2 => exact id
    | ex _ _ => exact id
    | bad => exact id
theorem wp_forR {fi : Sta → Res (List D)} {t : Tg} {b : Ex} {β : Type} {toD : β → D} (R : List β → Sta → Prop) {N : Sta → Prop} {V : D → Sta → Prop} {xs : List β} (hf : fi s = .ok (xs.map toD) s1) (h0 : R xs s1)
    (hs : ∀ x xs s, R (x :: xs) s → ∃ s1, t (toD x) s = some s1 ∧ Wp (b s1) ⟨R xs, V, R xs, N⟩) (he : ∀ s, R [] s → N s) {ct bk : Sta → Prop} : Wp (forS fi t b s) ⟨N, V, ct, bk⟩ := by
  unfold forS
  rw [bndS_ok hf]
  exact wp_loopR R xs s1 h0 hs he
/-- a while by a number that falls -/
theorem wp_whileI {t : Sta → Res Bool} {b : Ex} (I : Nat → Sta → Prop) (h : ∀ m s, I m s → (∃ s1, t s = .ok false s1 ∧ Q.nx s1) ∨ ∃ s1, t s = .ok true s1 ∧ Wp (b s1) ⟨fun s2 => ∃ k, k < m ∧ I k s2, Q.rt, fun s2 => ∃ k, k < m ∧ I k s2, Q.nx⟩) : ∀ (n m : Nat) (s : Sta), I m s → m < n → Wp (whileS t b n s) Q
  | 0, _, _, _, hm => by omega
  | n + 1, m, s, hs, hm => by
    rw [whileS]
    rcases h m s hs with ⟨s1, e, hq⟩ | ⟨s1, e, hb⟩
    · rw [bndS_ok e]; exact hq
    · rw [bndS_ok e, if_pos rfl]
      revert hb
      cases b s1 with
      | nx s2 => exact fun ⟨k, hk, hi⟩ => wp_whileI I h n k s2 hi (by omega)
      | cnt s2 => exact fun ⟨k, hk, hi⟩ => wp_whileI I h n k s2 hi (by omega)
      | brk s2 => exact id
      | ret d s2 => exact id
      | ex _ _ => exact id
      | bad => exact id
/-- a comprehension that leaves the store as it is: filter and map -/
theorem lc_pure {sl : List Sl} {t : Tg} {tt : Sta → Res Bool} {fe : Ev} {β : Type} {toD : β → D} (p : β → Bool) (v : β → P) : ∀ (xs : List β) (acc : List P) (st : Option (List MO)), (∀ x ∈ xs, ∃ s1, t (toD x) ⟨sl, st⟩ = some s1 ∧ s1.st = st ∧ EvT tt s1 (p x) ∧ (p x = true → EvD fe s1 (.p (v x)))) → acc.length + xs.length ≤ sizeLine →
    lcGo sl t tt fe (xs.map toD) acc st = some (acc ++ (xs.filter p).map v, st)
  | [], acc, st, _, _ => by simp [lcGo]
  | x :: xs, acc, st, h, hl => by
    obtain ⟨s1, e1, es, e2, e3⟩ := h x (List.mem_cons_self ..)
    rw [List.length_cons] at hl
    simp only [List.map_cons, lcGo, e1]
    rw [show tt s1 = .ok (p x) s1 from e2]
    cases hp : p x with
    | false =>
      simp only []
      rw [es, lc_pure p v xs acc st (fun y hy => h y (List.mem_cons_of_mem _ hy)) (by omega), List.filter_cons_of_neg (by rw [hp]; decide)]
    | true =>
      simp only []
      rw [show fe s1 = .ok (.p (v x)) s1 from e3 hp]
      simp only []
      rw [if_pos (by omega), es, lc_pure p v xs (acc ++ [v x]) st (fun y hy => h y (List.mem_cons_of_mem _ hy)) (by simp only [List.length_append, List.length_cons, List.length_nil]; omega), List.filter_cons_of_pos hp]
      simp
theorem lcF_pure {fi : Sta → Res (List D)} {own : List Nat} {t : Tg} {tt : Sta → Res Bool} {fe : Ev} {β : Type} {toD : β → D} (p : β → Bool) (v : β → P) {xs : List β} (hf : fi s = .ok (xs.map toD) s1)
    (h : ∀ x ∈ xs, ∃ s2, t (toD x) ⟨inSl own s1.sl, s1.st⟩ = some s2 ∧ s2.st = s1.st ∧ EvT tt s2 (p x) ∧ (p x = true → EvD fe s2 (.p (v x)))) (hl : xs.length ≤ sizeLine) : lcF fi own t tt fe s = .ok (.lst ((xs.filter p).map v)) s1 := by
  unfold lcF
  rw [bnd_ok hf, lc_pure p v xs [] s1.st h (by simpa using hl)]
  rfl
theorem lcF_map {fi : Sta → Res (List D)} {own : List Nat} {t : Tg} {fe : Ev} {β : Type} {toD : β → D} (v : β → P) {xs : List β} (hf : fi s = .ok (xs.map toD) s1)
    (h : ∀ x ∈ xs, ∃ s2, t (toD x) ⟨inSl own s1.sl, s1.st⟩ = some s2 ∧ s2.st = s1.st ∧ EvD fe s2 (.p (v x))) (hl : xs.length ≤ sizeLine) : lcF fi own t yesT fe s = .ok (.lst (xs.map v)) s1 := by
  have := lcF_pure (own := own) (t := t) (tt := yesT) (fe := fe) (fun _ => true) v hf (fun x hx => by obtain ⟨s2, e1, e2, e3⟩ := h x hx; exact ⟨s2, e1, e2, rfl, fun _ => e3⟩) hl
  rw [this, show xs.filter (fun _ => true) = xs from List.filter_eq_self.mpr fun _ _ => rfl]
theorem ed_frz {fl : Sta → Res Lin} {m : Lin} (h : fl s = .ok m s) : EvD (frz fl) s (frozen m) := by unfold EvD frz; rw [bnd_ok h]
theorem ei_walk {ys : List P} (hf : EvD f s d) (hi : immOf d = some (ys.map .p)) : bnd f walkR s = .ok (ys.map .p) s := by
  rw [bnd_ok hf]
  unfold walkR
  rw [hi]
end
end Dz
namespace Dz
open PySem PySem.Spec PyProof.Rows L2
section
variable {α : Type} {s s1 s2 s3 : Sta} {f g h : Ev} {d e x : D} {n : Nat} {Q Q' : Po} {m : Lin}
theorem wp_nx (h : Q.nx s) : Wp (.nx s) Q := h
theorem wp_setL {fl : Sta → Res Lin} (he : fl s = .ok m s1) (h : Q.nx ⟨s1.sl.set n (.lin m), s1.st⟩) : Wp (bndS fl (setL n) s) Q := wp_bnd he h
theorem wp_setB (he : f s = .ok d s1) (h : Q.nx ⟨s1.sl.set n (.v d), s1.st⟩) : Wp (bndS f (setV n) s) Q := wp_bnd he h
theorem wp_asg {t : Tg} (he : f s = .ok d s1) (ht : t d s1 = some s2) (h : Q.nx s2) : Wp (asgS f t s) Q := by
  unfold asgS
  rw [bndS_ok he, ht]
  exact h
theorem wp_drop (he : f s = .ok d s1) (h : Q.nx s1) : Wp (bndS f (fun _ => skip) s) Q := wp_bnd he h
theorem wp_retB (he : f s = .ok d s1) (h : Q.rt d s1) : Wp (bndS f retS s) Q := wp_bnd he h
end
end Dz
/-! sorted of a dict whose keys are tuples of a text and an int -/
namespace Dz
open PySem PySem.Spec PyProof.Rows L2
def ltSI (p q : Str × Int) : Bool := if p.1 = q.1 then decide (p.2 < q.2) else decide (p.1.cps.toList < q.1.cps.toList)
theorem str_eq {x y : Str} (h : x.cps.toList = y.cps.toList) : x = y := by
  cases x; cases y
  simp only [Str.mk.injEq]
  exact Array.toList_inj.mp h
theorem ltSI_iff {p q : Str × Int} : ltSI p q = true ↔ (p.1 = q.1 ∧ p.2 < q.2) ∨ (p.1 ≠ q.1 ∧ p.1.cps.toList < q.1.cps.toList) := by
  unfold ltSI
  by_cases e : p.1 = q.1
  · rw [if_pos e, decide_eq_true_eq]
    exact ⟨fun h => .inl ⟨e, h⟩, fun h => h.elim (·.2) fun h => absurd e h.1⟩
  · rw [if_neg e, decide_eq_true_eq]
    exact ⟨fun h => .inr ⟨e, h⟩, fun h => h.elim (fun h => absurd h.1 e) (·.2)⟩
theorem ltSI_asym {p q : Str × Int} (h : ltSI p q = true) : ltSI q p = false := by
  rw [← Bool.not_eq_true]
  intro z
  rw [ltSI_iff] at h z
  rcases h with ⟨e, h⟩ | ⟨e, h⟩
  · rcases z with ⟨_, z⟩ | ⟨z, _⟩
    · omega
    · exact z e.symm
  · rcases z with ⟨z, _⟩ | ⟨_, z⟩
    · exact e z.symm
    · exact List.lt_asymm h z
theorem ltSI_total {p q : Str × Int} (h : ltSI p q = false) (z : ltSI q p = false) : p = q := by
  rw [← Bool.not_eq_true, ltSI_iff] at h z
  by_cases e : p.1 = q.1
  · have : p.2 = q.2 := by
      have h1 : ¬ p.2 < q.2 := fun k => h (.inl ⟨e, k⟩)
      have h2 : ¬ q.2 < p.2 := fun k => z (.inl ⟨e.symm, k⟩)
      omega
    exact Prod.ext e this
  · have h1 : ¬ p.1.cps.toList < q.1.cps.toList := fun k => h (.inr ⟨e, k⟩)
    have h2 : ¬ q.1.cps.toList < p.1.cps.toList := fun k => z (.inr ⟨fun k => e k.symm, k⟩)
    exact absurd (str_eq (List.le_antisymm (List.not_lt.mp h2) (List.not_lt.mp h1))) e
theorem ltSI_trans {p q r : Str × Int} (h : ltSI p q = true) (z : ltSI q r = true) : ltSI p r = true := by
  rw [ltSI_iff] at h z ⊢
  rcases h with ⟨e, h⟩ | ⟨e, h⟩
  · rcases z with ⟨e2, z⟩ | ⟨e2, z⟩
    · exact .inl ⟨e.trans e2, by omega⟩
    · exact .inr ⟨by rw [e]; exact e2, by rw [e]; exact z⟩
  · rcases z with ⟨e2, z⟩ | ⟨e2, z⟩
    · exact .inr ⟨by rw [← e2]; exact e, by rw [← e2]; exact h⟩
    · have k : p.1.cps.toList < r.1.cps.toList := List.lt_trans h z
      exact .inr ⟨fun e3 => by rw [e3] at k; exact List.lt_irrefl _ k, k⟩
theorem ltSI_neg {p q r : Str × Int} (h : ltSI p q = false) (z : ltSI q r = false) : ltSI p r = false := by
  rw [← Bool.not_eq_true]
  intro k
  cases e : ltSI q p with
  | true =>
    have := ltSI_trans e k
    rw [z] at this; cases this
  | false =>
    have := ltSI_total h e
    subst this
    rw [z] at k; cases k
theorem ltSI_swo : SrtO.Swo ltSI := ⟨fun x y h => ltSI_asym h, fun x y z h1 h2 => ltSI_neg h2 h1⟩
/-- one place more -/
def insSI (x : Str × Int) : List (Str × Int) → List (Str × Int)
  | [] => [x]
  | y :: ys => if ltSI y x = true then y :: insSI x ys else x :: y :: ys
def sortSI : List (Str × Int) → List (Str × Int)
  | [] => []
  | x :: xs => insSI x (sortSI xs)
theorem ins_perm (x : Str × Int) : ∀ ys, (insSI x ys).Perm (x :: ys)
  | [] => .refl _
  | y :: ys => by
    unfold insSI
    split
    · exact ((ins_perm x ys).cons y).trans (.swap x y ys)
    · exact .refl _
theorem sort_perm : ∀ xs, (sortSI xs).Perm xs
  | [] => .refl _
  | x :: xs => (ins_perm x _).trans ((sort_perm xs).cons x)
abbrev SrtSI (xs : List (Str × Int)) : Prop := xs.Pairwise fun x y => ltSI y x = false
theorem ins_sorted (x : Str × Int) : ∀ ys, SrtSI ys → SrtSI (insSI x ys)
  | [], _ => List.pairwise_singleton _ _
  | y :: ys, h => by
    unfold insSI
    obtain ⟨h1, h2⟩ := List.pairwise_cons.mp h
    split
    · rename_i e
      refine List.pairwise_cons.mpr ⟨fun z hz => ?_, ins_sorted x ys h2⟩
      rcases List.mem_cons.mp ((ins_perm x ys).mem_iff.mp hz) with rfl | hz
      · exact ltSI_asym e
      · exact h1 z hz
    · rename_i e
      have e : ltSI y x = false := by simpa using e
      refine List.pairwise_cons.mpr ⟨fun z hz => ?_, h⟩
      rcases List.mem_cons.mp hz with rfl | hz
      · exact e
      · exact ltSI_neg (h1 z hz) e
theorem sort_sorted : ∀ xs, SrtSI (sortSI xs)
  | [] => .nil
  | x :: xs => ins_sorted x _ (sort_sorted xs)
theorem sort_uniq : ∀ {xs ys : List (Str × Int)}, SrtSI xs → SrtSI ys → xs.Perm ys → xs = ys
  | [], ys, _, _, p => (List.Perm.eq_nil p.symm).symm
  | x :: xs, [], _, _, p => absurd p.length_eq (by simp)
  | x :: xs, y :: ys, hx, hy, p => by
    obtain ⟨h1, h2⟩ := List.pairwise_cons.mp hx
    obtain ⟨k1, k2⟩ := List.pairwise_cons.mp hy
    have e : x = y := by
      rcases List.mem_cons.mp (p.mem_iff.mp (List.mem_cons_self ..)) with e | hm
      · exact e
      · rcases List.mem_cons.mp (p.mem_iff.mpr (List.mem_cons_self ..)) with e | hm2
        · exact e.symm
        · exact ltSI_total (k1 x hm) (h1 y hm2)
    subst e
    rw [sort_uniq h2 k2 p.cons_inv]
/-! the library's level -/
/-- v is the tuple of a text and an int -/
def IsSI (h : Heap) (v : Value) (k : Str × Int) : Prop := ∃ a o t u n, v = .ref a ∧ h.get? a = some o ∧ o.cls = .type "tuple" ∧ o.data = .seq #[.str k.1 t, .int k.2 u] n
theorem IsSI.keeps {h h' : Heap} {v : Value} {k : Str × Int} (x : IsSI h v k) (hk : ∀ b o, h.get? b = some o → o.cls = .type "tuple" → h'.get? b = some o) : IsSI h' v k := by
  obtain ⟨a, o, t, u, n, e, ho, hc, hd⟩ := x
  exact ⟨a, o, t, u, n, e, hk _ _ ho hc, hc, hd⟩
section
variable {prog : Program} {w : World} {A : Around} {s : Shared} {E : Value → Shared → Prop}
theorem si_cmp {vs : List Value} {k : Value → Str × Int} (hp : ∀ v ∈ vs, IsSI s.heap v (k v)) : SrtO.Cmp prog w A s (tuples' true) (fun p => p.1 ∈ vs) (SrtO.lt2 fun v u => ltSI (k v) (k u)) := by
  intro p q hm hm'
  have h1 := hp _ hm
  have h2 := hp _ hm'
  show wpAny (model prog w) A (keyLt' (tuples' true) p.1 q.1) (fun r s' => s' = s ∧ r = ltSI (k p.1) (k q.1)) (fun _ _ => False) s
  unfold ltSI
  obtain ⟨a, o, t, u, n, e, ho, hc, hd⟩ := h1
  obtain ⟨a', o', t', u', n', e', ho', hc', hd'⟩ := h2
  generalize (k p.1).1 = x at hd ⊢
  generalize (k p.1).2 = y at hd ⊢
  generalize (k q.1).1 = x' at hd' ⊢
  generalize (k q.1).2 = y' at hd' ⊢
  rw [e, e']
  refine PySem.W.kat_lt ho hd ho' hd' ?_
  show PySem.W.KatLex prog w A true (decide (2 < 2)) _ [(.str x t, .str x' t'), (.int y u, .int y' u')] 0 s
  refine PySem.W.kat_cons (SeqAt.EqAt.str_str x t x' t' prog w _ _ ?_)
  refine PySem.W.kat_go (fun e1 => ?_) (fun e1 => ?_)
  · have ex : x = x' := by simpa using e1
    refine PySem.W.kat_yes (PySem.W.kat_cons (SeqAt.EqAt.int_int y u y' u' prog w _ _ ?_))
    refine PySem.W.kat_go (fun e2 => ?_) (fun e2 => ?_)
    · have ey : y = y' := by simpa using e2
      have e3 : (if x = x' then decide (y < y') else decide (x.cps.toList < x'.cps.toList)) = false := by
        rw [if_pos ex, ey]
        exact decide_eq_false (Int.lt_irrefl _)
      exact PySem.W.kat_yes (PySem.W.kat_nil ⟨rfl, e3.symm⟩)
    · have e3 : (if x = x' then decide (y < y') else decide (x.cps.toList < x'.cps.toList)) = decide (y < y') := if_pos ex
      refine PySem.W.kat_no (PySem.W.kat_one _ _ (PyProof.Rows.lt_int ?_))
      exact (show s = s ∧ decide (y < y') = (if x = x' then decide (y < y') else decide (x.cps.toList < x'.cps.toList)) from ⟨rfl, e3.symm⟩)
  · have ex : ¬ x = x' := by simpa using e1
    have e3 : (if x = x' then decide (y < y') else decide (x.cps.toList < x'.cps.toList)) = decide (x.cps.toList < x'.cps.toList) := if_neg ex
    exact PySem.W.kat_no (PyProof.Rows.oneLt_str ⟨rfl, e3.symm⟩)
theorem si_firsts {h : Heap} : ∀ {vs : List Value}, (∀ v ∈ vs, ∃ k, IsSI h v k) → ∃ fs : List Value, PySem.W.KatTups h vs fs ∧ fs.length = vs.length ∧ ∀ f ∈ fs, ∃ x t, f = Value.str x t
  | [], _ => ⟨[], PySem.W.KatTups.nil, rfl, fun _ hm => by simp at hm⟩
  | v :: vs, hp => by
    obtain ⟨fs, h1, h2, h3⟩ := si_firsts (vs := vs) fun v' hm => hp v' (List.mem_cons_of_mem _ hm)
    obtain ⟨k, a, o, t, u, n, e, ho, hc, hd⟩ := hp v (List.mem_cons_self ..)
    subst e
    refine ⟨.str k.1 t :: fs, PySem.W.KatTups.cons ho hc hd rfl h1, by rw [List.length_cons, List.length_cons, h2], fun f hm => ?_⟩
    rcases List.mem_cons.mp hm with rfl | hm
    · exact ⟨k.1, t, rfl⟩
    · exact h3 f hm
theorem si_swo (k : Value → Str × Int) : SrtO.Swo fun v u => ltSI (k v) (k u) := ⟨fun x y h => ltSI_asym h, fun x y z h1 h2 => ltSI_neg h2 h1⟩
theorem si_sortable {a : Addr} {vs : List Value} {k : Value → Str × Int} (h0 : 0 < vs.length) (hp : ∀ v ∈ vs, IsSI s.heap v (k v)) (ha : ∀ o, s.heap.get? a = some o → o.cls ≠ .type "tuple") : SrtO.SortableO prog w A s a vs fun v u => ltSI (k v) (k u) := by
  intro h' keep
  have hp' : ∀ v ∈ vs, IsSI h' v (k v) := fun v hm => (hp v hm).keeps fun b o e c => keep b o (fun z => by subst z; exact ha o e c) e
  obtain ⟨fs, h1, h2, h3⟩ := si_firsts fun v hm => ⟨_, hp' v hm⟩
  refine ⟨tuples' true, fun Q E hq => ?_, si_cmp hp'⟩
  refine PySem.W.kat_kind (T := .type "str") h1 (by omega) (fun f hm => ?_) (by rfl) ?_
  · obtain ⟨x, t, rfl⟩ := h3 f hm
    exact PySem.W.Looks.now
  · have e : (Value.type "str" != Value.type "tuple") = true := by first | decide +kernel | rfl | decide
    rw [e]
    exact hq
end
section
variable {X : Cx}
theorem list_ext_paired {α β : Type} {R : α → β → Prop} : ∀ {xs : List α} {ys : List β}, Paired R xs ys → ∀ y ∈ ys, ∃ x ∈ xs, R x y
  | _, _, .nil, _, h => nomatch h
  | _, _, .cons a t, y, h => by
    rcases List.mem_cons.mp h with rfl | h
    · exact ⟨_, List.mem_cons_self .., a⟩
    · obtain ⟨x, hx, r⟩ := list_ext_paired t y h
      exact ⟨x, List.mem_cons_of_mem _ hx, r⟩
theorem paired_at {α β : Type} {R : α → β → Prop} : ∀ {xs : List α} {ys : List β}, Paired R xs ys → ∀ x ∈ xs, ∃ y ∈ ys, R x y
  | _, _, .nil, _, h => nomatch h
  | _, _, .cons a t, x, h => by
    rcases List.mem_cons.mp h with rfl | h
    · exact ⟨_, List.mem_cons_self .., a⟩
    · obtain ⟨y, hy, r⟩ := paired_at t x h
      exact ⟨y, List.mem_cons_of_mem _ hy, r⟩
theorem paired_key {H : Hp} : ∀ {kvs : List (List L2.Key × V)} {bs : List Addr} {kl : List (Str × Int)}, IsKeys H kvs bs → kvs.map (·.1) = kl.map (fun k => [Sum.inr k.1, Sum.inl k.2]) → Paired (fun (b : Addr) (k : Str × Int) => H b = some (.tup [.str k.1, .int k.2])) bs kl
  | _, _, [], .nil, _ => .nil
  | _, _, _ :: _, .nil, e => by simp at e
  | _, _, [], .cons _ _, e => by simp at e
  | _, _, k :: kl, .cons h1 t, e => by
    rw [List.map_cons, List.map_cons] at e
    injection e with e1 e2
    rw [e1] at h1
    exact .cons h1 (paired_key t e2)
def keyOf (H : Hp) : Value → Str × Int
  | .ref b => match H b with
    | some (.tup [.str x, .int y]) => (x, y)
    | _ => ("", 0)
  | _ => ("", 0)
theorem keyOf_at {H : Hp} {b : Addr} {k : Str × Int} (h : H b = some (.tup [.str k.1, .int k.2])) : keyOf H (.ref b) = k := by
  unfold keyOf
  simp only [h]
theorem keys_eq {H : Hp} : ∀ {bl : List Addr} {kl : List (Str × Int)}, Paired (fun (b : Addr) (k : Str × Int) => H b = some (.tup [.str k.1, .int k.2])) bl kl → bl.map (fun b => keyOf H (.ref b)) = kl
  | _, _, .nil => rfl
  | _, _, .cons h t => by rw [List.map_cons, keyOf_at h, keys_eq t]
/-- sorted(d) of a dict with (text, int) keys -/
theorem call_sortedDT (hc : X.calm = true) : CallR X (.builtin "sorted") (fun xs H Q => ∃ (d : Addr) (kvs : List (List L2.Key × V)) (ks : List (Str × Int)), xs = [V.ref d] ∧ Rd H d (.dT kvs) ∧ kvs.map (·.1) = ks.map (fun k => [Sum.inr k.1, Sum.inl k.2]) ∧
    ∀ p (bs : List Addr), H p = none → Paired (fun b k => H b = some (.tup [.str k.1, .int k.2])) bs (sortSI ks) → Q (.ref p) (upd H p (.lst (bs.map V.ref)))) := by
  intro pins s σ H xs us Q I r h
  obtain ⟨d, kvs, kl, rfl, hd, hkl, q⟩ := h
  obtain ⟨u, rfl, rx⟩ := r.one
  cases rx
  obtain ⟨z, hs, ks, pr, o, es, ep, ho, hx, hdt, he, hn⟩ := (show ObjOk X.prog X.w H s.heap d (.dT kvs) from hd.ok I.hok)
  have l1 : es.size = ks.length := size_of_entries he
  have l2 : kvs.length = ks.length := Paired.length pr
  have l3 : kvs.length = kl.length := by have e := congrArg List.length hkl; rwa [List.length_map, List.length_map] at e
  refine Calls.call_function_entry PyProof.Rows.kind_sorted PyProof.Rows.plain_sorted PyProof.Rows.entry_sorted (PyProof.Rows.args_sorted1 _) ?_
  unfold Builtin.«sorted»
  refine wpAny_bind (m := checkCount "sorted" 1 1 _) (wpAny_pure ?_)
  refine wpAny_bind (PySem.W.kdu_collect (A := X.A.in1) (kdl_raw hs hx hdt) (I.ok.hd hc) ho (by omega) fun h' tk acc hk hacc => ?_)
  have ea : acc.toList = ks.map fun x => Value.ref x.2.1 := by
    have hl : acc.toList.length = ks.length := by rw [Array.length_toList, hacc.1]; exact l1
    apply List.ext_getElem?
    intro j
    rw [List.getElem?_map]
    cases hj : acc.toList[j]? with
    | none =>
      have h1 := List.getElem?_eq_none_iff.mp hj
      rw [List.getElem?_eq_none (by omega)]
      rfl
    | some v =>
      obtain ⟨en, hen, hv⟩ := hacc.2 j v (by rw [← Array.getElem?_toList]; exact hj)
      have qe := entry_at he j
      rw [hen] at qe
      cases hb : ks[j]? with
      | none =>
        rw [hb] at qe
        exact nomatch (show some en = none from qe)
      | some b =>
        rw [hb] at qe
        have e2 : en = entryOfKey (tupleKind (mixKind X.prog X.w)) b := Option.some.inj qe
        rw [hv, e2]
        rfl
  have hal : acc.toList.length = ks.length := by rw [ea, List.length_map]
  have I1 : Inv X pins σ H { s with heap := h', toks := tk } := I.kept hk
  -- the keys in the heap
  have hpair := paired_key (isKeys_of pr) hkl
  have hmem : ∀ v ∈ acc.toList, ∃ (b : Addr) (k : Str × Int), v = .ref b ∧ H b = some (.tup [.str k.1, .int k.2]) := by
    intro v hv
    rw [ea] at hv
    obtain ⟨x, hx, rfl⟩ := List.mem_map.mp hv
    obtain ⟨k, _, r⟩ := paired_at hpair x.2.1 (List.mem_map.mpr ⟨x, hx, rfl⟩)
    exact ⟨_, k, rfl, r⟩
  have hsi : ∀ v ∈ acc.toList, IsSI h' v (keyOf H v) := by
    intro v hv
    obtain ⟨b, k, rfl, hb⟩ := hmem v hv
    obtain ⟨_, its2, r2, o, ho, hc, n, hd⟩ := I1.hok _ _ hb
    obtain ⟨u1, u2, rfl, ri, rj⟩ := vals2 r2
    obtain ⟨t1, rfl⟩ := ri
    obtain ⟨t2, rfl⟩ := rj
    rw [keyOf_at hb]
    exact ⟨b, o, t1, t2, n, rfl, ho, hc, hd⟩
  have hz : acc.toList.length ≤ sizeLine := by rw [hal]; omega
  have hoL : (h'.push (seqObj "list" acc.toList.toArray 0)).get? h'.objs.size = some (seqObj "list" acc.toList.toArray 0) := Heap.get?_push_size _ rfl
  refine wpAny_bind (wpAny_newList ?_ hz)
  show wpAny _ _ _ _ _ { s with heap := h'.push (seqObj "list" acc.toList.toArray 0), toks := tk }
  refine wpAny_bind (wpAny_holding (wpAny_call_entry PyProof.Rows.slot_list_sort ⟨_, hoL, rfl⟩ PyProof.Rows.entry_list_sort
    (SrtO.list_sort_ord (s := { s with heap := h'.push (seqObj "list" acc.toList.toArray 0), toks := tk }) (si_swo (keyOf H)) hoL hz (fun h2 => si_sortable (by omega) (fun v hm => (hsi v hm).keeps fun b o e _ => Heap.get?_push_of_some _ e) fun o e => ?_) fun out g1 g2 => ⟨_, rfl, ?_⟩) (PyProof.Rows.args_list_sort _)))
  · have e' : some o = some (seqObj "list" acc.toList.toArray 0) := e.symm.trans hoL
    cases e'
    intro c
    exact absurd (Value.type.inj c) (by decide)
  · obtain ⟨e', he'⟩ := PyProof.Rows.sortedHeap_at (vs := acc.toList) (out := out.toArray) hoL
    have hmo : ∀ v ∈ out, ∃ (b : Addr) (k : Str × Int), v = .ref b ∧ H b = some (.tup [.str k.1, .int k.2]) := fun v hv => hmem v (g2.perm.mem_iff.mp hv)
    obtain ⟨bs, ebs, hbs⟩ : ∃ bs : List Addr, out = bs.map Value.ref ∧ Paired (fun (b : Addr) (k : Str × Int) => H b = some (.tup [.str k.1, .int k.2])) bs (out.map (keyOf H)) := by
      clear g1 g2 he'
      induction out with
      | nil => exact ⟨[], rfl, .nil⟩
      | cons v out ih =>
        obtain ⟨b, k, rfl, hb⟩ := hmo v (List.mem_cons_self ..)
        obtain ⟨bs, rfl, hp⟩ := ih fun v hv => hmo v (List.mem_cons_of_mem _ hv)
        exact ⟨b :: bs, rfl, .cons (by rw [keyOf_at hb]; exact hb) hp⟩
    have hkeys : acc.toList.map (keyOf H) = kl := by
      rw [ea, List.map_map]
      clear hacc
      revert hpair
      rw [show (ks.map ((keyOf H) ∘ fun x => Value.ref x.2.1)) = (ks.map fun x => x.2.1).map (fun b => keyOf H (.ref b)) by rw [List.map_map]; rfl]
      generalize (ks.map fun x => x.2.1) = bl
      exact fun hp => keys_eq hp
    have hsorted : out.map (keyOf H) = sortSI kl := sort_uniq (List.pairwise_map.mpr g1) (sort_sorted _) (((g2.perm.map (keyOf H)).trans (by rw [hkeys])).trans (sort_perm kl).symm)
    rw [hsorted] at hbs
    have hlen : (bs.map V.ref).length ≤ sizeLine := by
      have := g2.perm.length_eq
      rw [ebs, List.length_map] at this
      rw [List.length_map]; omega
    refine wpAny_pure ⟨_, rfl, .ref h'.objs.size, upd H h'.objs.size (.lst (bs.map V.ref)), I1.laid (t' := tk) (fun b u e => ?_) (Nat.le_refl _)
      (show ObjOk X.prog X.w _ _ _ (.lst (bs.map V.ref)) from ⟨hlen, out, e', by rw [ebs]; exact vals_refs _, he'⟩), rfl, q _ bs (I1.hok.fresh (Nat.le_refl _)) hbs⟩
    have hb : b < h'.objs.size := Heap.lt_size e
    rw [PyProof.Rows.sortedHeap_old (Nat.ne_of_lt hb) (by rw [size_push']; exact Nat.lt_succ_of_lt hb)]
    exact Heap.get?_push_of_some _ e
end
/-! the rule of the view -/
def keySI : List L2.Key → Option (Str × Int)
  | [.inr x, .inl i] => some (x, i)
  | _ => none
def siP (k : Str × Int) : P := .tup [.str k.1, .int k.2]
def sortF (p : Pk) : Sta → Res Lin := fun s => match dctPk p s with
  | some kvs => match kvs.mapM fun kv => keySI kv.1 with
    | some ks => .ok (.lst ((sortSI ks).map siP)) s
    | none => .bad
  | none => .bad
section
variable {X : Cx} {G : Env} {σ σ' : L2.St} {w w1 w' : Wo} {H H1 H' : Hp} {s s1 s' : Sta} {K : PySem.W.Frag} {mg : Str → Option Value} {B : Ba}
variable {a b c e o : Expr} {pos p2 p : Pos} {fp : Sta → Res Pk}
theorem vdk_keys {κ : Type} : ∀ {ds : List (κ × D)} {vs : List (κ × V)}, VdK K H w ds vs → vs.map (·.1) = ds.map (·.1)
  | _, _, .nil => rfl
  | _, _, .cons _ t => by rw [List.map_cons, List.map_cons, vdk_keys t]
theorem keys_SI : ∀ {ds : List (List L2.Key × D)} {ks : List (Str × Int)}, ds.mapM (fun kv => keySI kv.1) = some ks → ds.map (·.1) = ks.map fun k => [Sum.inr k.1, Sum.inl k.2]
  | [], ks, e => by simp at e; subst e; rfl
  | (k, d) :: ds, ks, e => by
    rw [List.mapM_cons] at e
    simp only [Option.pure_def, Option.bind_eq_bind] at e
    cases e1 : keySI k with
    | none => rw [e1] at e; simp at e
    | some y =>
      rw [e1] at e
      cases e2 : ds.mapM (fun kv => keySI kv.1) with
      | none => rw [e2] at e; simp at e
      | some ys =>
        rw [e2] at e
        simp at e
        subst e
        have hk : k = [Sum.inr y.1, Sum.inl y.2] := by
          unfold keySI at e1
          split at e1
          · cases e1; rfl
          · cases e1
        rw [List.map_cons, List.map_cons, keys_SI e2, hk]
theorem si_td {I : Addr → Prop} : ∀ {bs : List Addr} {ks : List (Str × Int)}, Paired (fun (b : Addr) (k : Str × Int) => H b = some (.tup [.str k.1, .int k.2])) bs ks → TdL K false H I (ks.map siP) (bs.map V.ref)
  | _, _, .nil => .nil
  | _, _, .cons h t => .cons (.tup h (.cons (.str _) (.cons (.int _) .nil))) (si_td t)
theorem u_sortF : U1F X G (fun xs H Q => ∃ (d : Addr) (kvs : List (List L2.Key × V)) (ks : List (Str × Int)), xs = [V.ref d] ∧ Rd H d (.dT kvs) ∧ kvs.map (·.1) = ks.map (fun k => [Sum.inr k.1, Sum.inl k.2]) ∧
    ∀ p (bs : List Addr), H p = none → Paired (fun b k => H b = some (.tup [.str k.1, .int k.2])) bs (sortSI ks) → Q (.ref p) (upd H p (.lst (bs.map V.ref)))) sortF := by
  intro σ w s H q v Q W r h
  unfold sortF at h
  split at h
  · rename_i ds es
    split at h
    · rename_i ks ek
      obtain ⟨a, vs, rfl, hq, tl⟩ := dctPk_at W r es
      exact ⟨a, vs, ks, rfl, hq, (vdk_keys tl).trans (keys_SI ek), fun l bs nl hp => PostF.new W nl (fun mo => .lst upd_same ((si_td hp).mono mo.imm)) h⟩
    · exact h.elim
  · exact h.elim
theorem df_sortK (hc : X.calm = true) (hg : Gl X "sorted") (hm : X.mg "sorted" = none) (ha : DP X G a fp) (h1 : starEach [a] X.env = (false, eval a X.env) :: starEach [] X.env := by rfl) : DF X G (.Call (.Name "sorted" p) [a] [] pos) (bnd fp sortF) := df_b1 (call_sortedDT hc) u_sortF hg hm (by decide +kernel) ha (h1 := h1)
end
end Dz
/-! list(zip(a, b)) of two tuples: each pair stays, so the zip makes a new one each time -/
namespace Lz
open PySem PySem.Spec PySem.Calls PySem.W RZ
section
variable {prog : Program} {w : World} {A : Around} {E : Value → Shared → Prop} {s : Shared}
/-- a turn while the last pair is held by others -/
theorem held1 {z TI TO T i1 i2 a b : Addr} {f : Bool} {oT : Obj} {k : Nat} {xs ys : Array Value} {x y : Value} {Q : Value → Shared → Prop} (D : ZipApart z TI TO i1 i2 a b)
    (zz : IsZipHeld s.heap z TI TO T f) (tt : s.heap.get? T = some oT) (pp : IsPair s.heap TI (.ref i1) (.ref i2))
    (u1 : s.heap.IsTupleIter i1 a k) (u2 : s.heap.IsTupleIter i2 b k) (ta : s.heap.IsTuple a xs) (tb : s.heap.IsTuple b ys) (ex : xs[k]? = some x) (ey : ys[k]? = some y)
    (q : ∀ g, IsZipHeld g z TI TO T true → g.IsTupleIter i1 a (k + 1) → g.IsTupleIter i2 b (k + 1) → IsPair g s.heap.objs.size x y → (∀ c o, c ≠ z → c ≠ i1 → c ≠ i2 → s.heap.get? c = some o → g.get? c = some o) → Q (.ref s.heap.objs.size) { s with heap := g }) :
    wpAny (model prog w) A (Builtin.«zip.__next__» ⟨[.ref z], []⟩) (fun fin s' => ∃ v, fin = .done (.ret v) ∧ Q v s') E s := by
  show wpAny (model prog w) A (field (Value.ref z) 2 >>= _) _ E s
  refine wpAny_bind (wpAny_field zz rfl (x := .bool false) rfl ?_)
  show wpAny (model prog w) A (field (Value.ref z) 3 >>= _) _ E s
  refine wpAny_bind (wpAny_field zz rfl (x := .ref TI) rfl ?_)
  refine wpAny_bind (wpAny_seqItems pp rfl ?_)
  show wpAny (model prog w) A (Builtin.SmallTypes.ownedTupleIsFree (Value.ref z) >>= _) _ E s
  refine wpAny_bind (wpAny_tupleHeld_zip zz tt fun g1 zz1 e1 => ?_)
  simp only [Bool.false_eq_true, if_false]
  refine wpAny_bind ?_
  rw [← Array.forIn_toList]
  simp only [List.forIn_cons, List.forIn_nil]
  refine wpAny_bind (wpAny_bind (wpAny_holding ?_))
  show wpAny (model prog w) _ (Builtin.SmallTypes.nextOf (Value.ref i1) >>= _) _ _ _
  refine wpAny_bind (nextOf_tuple_item (s := { s with heap := g1 }) (u1.extBut e1.extBut D.i1z) (ta.extBut e1.extBut D.l1z) ex fun g2 v1 e2 => wpAny_pure (wpAny_pure ?_))
  refine wpAny_bind (wpAny_bind (wpAny_holding ?_))
  show wpAny (model prog w) _ (Builtin.SmallTypes.nextOf (Value.ref i2) >>= _) _ _ _
  refine wpAny_bind (nextOf_tuple_item (s := { s with heap := g2 }) ((u2.extBut e1.extBut D.i2z).extBut e2.extBut D.i12.symm) ((tb.extBut e1.extBut D.l2z).extBut e2.extBut D.l2i1) ey fun g3 v2 e3 => wpAny_pure (wpAny_pure (wpAny_pure ?_)))
  show wpAny (model prog w) A (newTuple [x, y] >>= _) _ E _
  refine wpAny_bind (wpAny_newTuple ?_)
  have sz : g3.objs.size = s.heap.objs.size := by rw [e3.1, e2.1, e1.1]
  have zz3 : IsZipHeld g3 z TI TO T true := e3.extBut _ _ D.i2z.symm (e2.extBut _ _ D.i1z.symm zz1)
  have up : ∀ c o, c ≠ z → c ≠ i1 → c ≠ i2 → s.heap.get? c = some o → g3.get? c = some o := fun c o n1 n2 n3 h => e3.extBut _ _ n3 (e2.extBut _ _ n2 (e1.extBut _ _ n1 h))
  have v13 : g3.IsTupleIter i1 a (k + 1) := v1.extBut e3.extBut D.i12
  refine wpAny_pure ⟨_, rfl, ?_⟩
  show Q (Value.ref g3.objs.size) _
  have pr : IsPair (g3.push { cls := .type "tuple", data := .seq #[x, y] }) g3.objs.size x y := Heap.get?_push_size _ rfl
  rw [sz] at pr ⊢
  exact q _ (Heap.get?_push_of_some _ zz3) (v13.at fun o h => Heap.get?_push_of_some _ h) (v2.at fun o h => Heap.get?_push_of_some _ h) pr fun c o n1 n2 n3 h => Heap.get?_push_of_some _ (up c o n1 n2 n3 h)
/-- the zip of two tuples, i turns on -/
def ZSt (z TI TO i1 i2 a b : Addr) (xs ys : Array Value) (i : Nat) (h : Heap) : Prop :=
  IsPair h TI (.ref i1) (.ref i2) ∧ h.IsTupleIter i1 a i ∧ h.IsTupleIter i2 b i ∧ h.IsTuple a xs ∧ h.IsTuple b ys ∧
    ((IsZip h z TI TO .none ∧ ∃ x y, IsPair h TO x y) ∨ ∃ T f oT, IsZipHeld h z TI TO T f ∧ h.get? T = some oT ∧ T ≠ z ∧ T ≠ i1 ∧ T ≠ i2)
theorem ZSt.keep {z TI TO i1 i2 a b : Addr} {xs ys : Array Value} {i : Nat} {h g : Heap} (st : ZSt z TI TO i1 i2 a b xs ys i h) (k : ∀ c o, h.get? c = some o → g.get? c = some o) : ZSt z TI TO i1 i2 a b xs ys i g := by
  obtain ⟨p, u1, u2, ta, tb, zz⟩ := st
  refine ⟨k _ _ p, u1.at fun o e => k _ o e, u2.at fun o e => k _ o e, ta.at fun o e => k _ o e, tb.at fun o e => k _ o e, ?_⟩
  rcases zz with ⟨zz, x, y, t⟩ | ⟨T, f, oT, zz, t, r⟩
  · exact .inl ⟨k _ _ zz, x, y, k _ _ t⟩
  · exact .inr ⟨T, f, oT, k _ _ zz, k _ _ t, r⟩
/-- a turn of it -/
theorem zturn {z TI TO i1 i2 a b : Addr} {i : Nat} {xs ys : Array Value} {x y : Value} {Q : Option Value → Shared → Prop} (D : ZipApart z TI TO i1 i2 a b) (st : ZSt z TI TO i1 i2 a b xs ys i s.heap) (ex : xs[i]? = some x) (ey : ys[i]? = some y)
    (q : ∀ g, ZSt z TI TO i1 i2 a b xs ys (i + 1) g → IsPair g s.heap.objs.size x y → (∀ c o, c ∉ [z, TO, i1, i2] → s.heap.get? c = some o → g.get? c = some o) → Q (some (.ref s.heap.objs.size)) { s with heap := g }) : wpAny (model prog w) A (pyNext (.ref z)) Q E s := by
  obtain ⟨pp, u1, u2, ta, tb, zz⟩ := st
  have lt : ∀ {c o}, s.heap.get? c = some o → s.heap.objs.size ≠ c := fun e => Nat.ne_of_gt (Heap.lt_size e)
  have n1 : s.heap.objs.size ≠ i1 := let ⟨_, e, _⟩ := u1; lt e
  have n2 : s.heap.objs.size ≠ i2 := let ⟨_, e, _⟩ := u2; lt e
  rcases zz with ⟨zz, x0, y0, t⟩ | ⟨T, f, oT, zz, t, r1, r2, r3⟩
  · refine pyNext_zipT_item D zz pp t u1 u2 ta tb ex ey fun g z1 z2 v1 v2 pr _ k => ?_
    exact q g ⟨k _ _ D.TIz D.TITO D.TIi1 D.TIi2 pp, v1, v2, ta.at fun o e => k _ o D.l1z D.l1TO D.l1i1 D.l1i2 e, tb.at fun o e => k _ o D.l2z D.l2TO D.l2i1 D.l2i2 e, .inr ⟨s.heap.objs.size, false, _, z1, pr, lt zz, n1, n2⟩⟩ pr
      fun c o hc e => k c o (fun h => hc (by simp [h])) (fun h => hc (by simp [h])) (fun h => hc (by simp [h])) (fun h => hc (by simp [h])) e
  · have ty : s.TypeIs (.ref z) "zip" := ⟨_, zz, rfl⟩
    unfold pyNext
    refine wpAny_bind (wpAny_attempt (wpAny_callSpecial?_slot (name := Str.ofString "__next__") ty F.slot_zip_next (wpAny_call_entry F.slot_zip_next ty F.entry_zip_next (held1 D zz t pp u1 u2 ta tb ex ey fun g z1 v1 v2 pr k => wpAny_pure ?_) (F.args_zip_next_1 _))))
    exact q g ⟨k _ _ D.TIz D.TIi1 D.TIi2 pp, v1, v2, ta.at fun o e => k _ o D.l1z D.l1i1 D.l1i2 e, tb.at fun o e => k _ o D.l2z D.l2i1 D.l2i2 e, .inr ⟨T, true, oT, z1, k _ _ r1 r2 r3 t, r1, r2, r3⟩⟩ pr
      fun c o hc e => k c o (fun h => hc (by simp [h])) (fun h => hc (by simp [h])) (fun h => hc (by simp [h])) e
end
end Lz
namespace Lz
open PySem PySem.Spec PySem.Calls PySem.W RZ
section
variable {prog : Program} {w : World} {A : Around} {E : Value → Shared → Prop} {s : Shared}
theorem heldEnd {z TI TO T i1 i2 a b : Addr} {f : Bool} {oT : Obj} {k : Nat} {xs ys : Array Value} {Q : Fin → Shared → Prop} (D : ZipApart z TI TO i1 i2 a b) (hn : A.handled = none)
    (zz : IsZipHeld s.heap z TI TO T f) (tt : s.heap.get? T = some oT) (pp : IsPair s.heap TI (.ref i1) (.ref i2))
    (u1 : s.heap.IsTupleIter i1 a k) (ta : s.heap.IsTuple a xs) (ex : xs[k]? = none)
    (q : ∀ g e, (∀ c o, c ≠ z → c ≠ i1 → s.heap.get? c = some o → g.get? c = some o) → (∃ o, g.get? e = some o ∧ o.cls = .type "StopIteration") → E (.ref e) { s with heap := g }) :
    wpAny (model prog w) A (Builtin.«zip.__next__» ⟨[.ref z], []⟩) Q E s := by
  show wpAny (model prog w) A (field (Value.ref z) 2 >>= _) _ E s
  refine wpAny_bind (wpAny_field zz rfl (x := .bool false) rfl ?_)
  show wpAny (model prog w) A (field (Value.ref z) 3 >>= _) _ E s
  refine wpAny_bind (wpAny_field zz rfl (x := .ref TI) rfl ?_)
  refine wpAny_bind (wpAny_seqItems pp rfl ?_)
  show wpAny (model prog w) A (Builtin.SmallTypes.ownedTupleIsFree (Value.ref z) >>= _) _ E s
  refine wpAny_bind (wpAny_tupleHeld_zip zz tt fun g1 zz1 e1 => ?_)
  simp only [Bool.false_eq_true, if_false]
  refine wpAny_bind ?_
  rw [← Array.forIn_toList]
  simp only [List.forIn_cons, List.forIn_nil]
  refine wpAny_bind (wpAny_bind (wpAny_holding ?_))
  show wpAny (model prog w) _ (Builtin.SmallTypes.nextOf (Value.ref i1) >>= _) _ _ _
  refine wpAny_bind (nextOf_tuple_end (s := { s with heap := g1 }) hn (u1.extBut e1.extBut D.i1z) (ta.extBut e1.extBut D.l1z) ex fun g2 e k2 he => ?_)
  exact q g2 e (fun c o n1 n2 h => k2 _ _ n2 (e1.extBut _ _ n1 h)) he
theorem zend {z TI TO i1 i2 a b : Addr} {i : Nat} {xs ys : Array Value} {Q : Option Value → Shared → Prop} (D : ZipApart z TI TO i1 i2 a b) (hn : A.handled = none) (st : ZSt z TI TO i1 i2 a b xs ys i s.heap) (ex : xs[i]? = none)
    (q : ∀ g, (∀ c o, c ∉ [z, TO, i1, i2] → s.heap.get? c = some o → g.get? c = some o) → Q none { s with heap := g }) : wpAny (model prog w) A (pyNext (.ref z)) Q E s := by
  obtain ⟨pp, u1, u2, ta, tb, zz⟩ := st
  rcases zz with ⟨zz, x0, y0, t⟩ | ⟨T, f, oT, zz, t, r1, r2, r3⟩
  · exact pyNext_zipT_end hn D zz pp t u1 u2 ta tb (.inl ex) fun g k => q g fun c o hc e => k c o (fun h => hc (by simp [h])) (fun h => hc (by simp [h])) (fun h => hc (by simp [h])) (fun h => hc (by simp [h])) e
  · have ty : s.TypeIs (.ref z) "zip" := ⟨_, zz, rfl⟩
    unfold pyNext
    refine wpAny_bind (wpAny_attempt (wpAny_callSpecial?_slot (name := Str.ofString "__next__") ty F.slot_zip_next (wpAny_call_entry F.slot_zip_next ty F.entry_zip_next (heldEnd (ys := ys) D hn zz t pp u1 ta ex fun g e k he => ?_) (F.args_zip_next_1 _))))
    obtain ⟨o, ho, hc⟩ := he
    exact wpAny_bind (wpAny_isInstance (T := "StopIteration") (b := true) ⟨o, ho, hc⟩ isSubtype_stop (wpAny_pure (q g fun c o hc e => k c o (fun h => hc (by simp [h])) (fun h => hc (by simp [h])) e)))
/-- what is in the list: new pairs -/
def PairsIn (xs ys : Array Value) (lo : Nat) (h : Heap) (acc : Array Value) : Prop := acc.toList.Nodup ∧ ∀ (j : Nat) (v : Value), acc[j]? = some v → ∃ (T : Addr) (x y : Value), v = .ref T ∧ xs[j]? = some x ∧ ys[j]? = some y ∧ IsPair h T x y ∧ lo ≤ T
theorem PairsIn.keep {xs ys : Array Value} {lo : Nat} {h g : Heap} {acc : Array Value} (p : PairsIn xs ys lo h acc) (k : ∀ (c : Addr) o, lo ≤ c → h.get? c = some o → g.get? c = some o) : PairsIn xs ys lo g acc := ⟨p.1, fun j v e => by
  obtain ⟨T, x, y, ev, e1, e2, pr, l⟩ := p.2 j v e
  exact ⟨T, x, y, ev, e1, e2, k _ _ l pr, l⟩⟩
theorem zloop {z TI TO i1 i2 a b : Addr} {xs ys : Array Value} {n lo : Nat} {R : Result → Shared → Prop} (D : ZipApart z TI TO i1 i2 a b) (hh : A.handled = none) (nx : xs.size = n) (ny : ys.size = n) (hn : n ≤ sizeLine) (S : Addr) (nS : S ∉ [z, TI, TO, i1, i2, a, b])
    (hlo : ∀ c, c ∈ [S, z, TO, i1, i2] → (c : Nat) < lo) (res : Value) :
    ∀ (k i : Nat) (s : Shared) (acc : Array Value) (c : Nat), n - i = k → i ≤ n → lo ≤ s.heap.objs.size → ZSt z TI TO i1 i2 a b xs ys i s.heap → s.heap.get? S = some { cls := .type "list", dict := none, data := .seq acc c, slots := #[] } → acc.size = i → PairsIn xs ys lo s.heap acc →
    (∀ g acc' c', (∀ c o, c ∉ [S, z, TO, i1, i2] → s.heap.get? c = some o → g.get? c = some o) → g.get? S = some { cls := .type "list", dict := none, data := .seq acc' c', slots := #[] } → acc'.size = n → PairsIn xs ys lo g acc' → R (.ok (.ret res)) { s with heap := g }) →
    codeAny (model prog w) A (.builtin "list.extend.loop" ⟨[.ref S, .ref z, res], []⟩) R s := by
  have nSw : S ∉ [z, TO, i1, i2] := fun h => nS (by simp only [List.mem_cons, List.not_mem_nil, or_false] at h ⊢; rcases h with h | h | h | h <;> simp [h])
  have old : ∀ c, lo ≤ (c : Nat) → c ∉ [S, z, TO, i1, i2] := fun c hc h => absurd hc (Nat.not_le.mpr (hlo c h))
  intro k
  induction k with
  | zero =>
    intro i s acc c hk hi hl st hS ha hp hR
    have e : i = n := by omega
    subst e
    refine codeAny_builtin F.entry_extend_loop ?_
    rw [Around.under_plainId F.plain_extend_loop _]
    show wpAny (model prog w) A.in1 (pyNext (Value.ref z) >>= _) _ _ s
    refine wpAny_bind (zend D hh st (Array.getElem?_eq_none (by omega)) fun g kp => ?_)
    exact wpAny_pure (hR g acc c (fun c o hc e => kp c o (fun h => hc (List.mem_cons_of_mem _ h)) e) (kp S _ nSw hS) ha (hp.keep fun c o hc e => kp c o (fun h => old c hc (List.mem_cons_of_mem _ h)) e))
  | succ k ih =>
    intro i s acc c hk hi hl st hS ha hp hR
    have hlt : i < n := by omega
    refine codeAny_builtin F.entry_extend_loop ?_
    rw [Around.under_plainId F.plain_extend_loop _]
    show wpAny (model prog w) A.in1 (pyNext (Value.ref z) >>= _) _ _ s
    refine wpAny_bind (zturn D st (Array.getElem?_eq_getElem (by omega)) (Array.getElem?_eq_getElem (by omega)) fun g st1 pr kp => ?_)
    have hS1 := kp S _ nSw hS
    have hl1 : s.heap.objs.size < g.objs.size := Heap.lt_size pr
    show wpAny (model prog w) A.in1 (updateSeq S (·.push (Value.ref s.heap.objs.size)) >>= _) _ _ _
    refine wpAny_bind (wpAny_updateSeq hS1 rfl (wpAny_pure ⟨plainId_quiet F.plain_extend_loop _, ?_⟩) (by rw [ha]; omega) (by show (acc.push _).size ≤ sizeLine + 1; rw [Array.size_push, ha]; omega))
    have oth : ∀ c o, c ≠ S → g.get? c = some o → (g.update S (Obj.mapSeq (·.push (Value.ref s.heap.objs.size)))).get? c = some o := fun c o hc e => (Heap.get?_update_other _ _ (Ne.symm hc)).trans e
    have sS : s.heap.objs.size ≠ S := Nat.ne_of_gt (Heap.lt_size hS)
    have hl2 : lo ≤ (g.update S (Obj.mapSeq (·.push (Value.ref s.heap.objs.size)))).objs.size := Nat.le_trans hl (Nat.le_of_lt (Heap.lt_size (oth _ _ sS pr)))
    refine ih (i + 1) { s with heap := g.update S (Obj.mapSeq (·.push (Value.ref s.heap.objs.size))) } (acc.push (.ref s.heap.objs.size)) _ (by omega) hlt hl2 ?_ (Heap.get?_update_self _ hS1 rfl) (by rw [Array.size_push, ha]) ?_ fun g2 acc' c' kp2 hS2 ha2 hp2 => ?_
    · obtain ⟨pp, u1, u2, ta, tb, zz⟩ := st1
      have nz : ∀ c, c ∈ [z, TI, TO, i1, i2, a, b] → c ≠ S := fun c hc h => nS (h ▸ hc)
      refine ⟨oth _ _ (nz TI (by simp)) pp, u1.at fun o e => oth _ o (nz i1 (by simp)) e, u2.at fun o e => oth _ o (nz i2 (by simp)) e, ta.at fun o e => oth _ o (nz a (by simp)) e, tb.at fun o e => oth _ o (nz b (by simp)) e, ?_⟩
      rcases zz with ⟨zz, x, y, t⟩ | ⟨T, f, oT, zz, t, r⟩
      · exact .inl ⟨oth _ _ (nz z (by simp)) zz, x, y, oth _ _ (nz TO (by simp)) t⟩
      · by_cases h : T = S
        · subst h
          exact .inr ⟨T, f, _, oth _ _ (nz z (by simp)) zz, Heap.get?_update_self _ hS1 rfl, r⟩
        · exact .inr ⟨T, f, oT, oth _ _ (nz z (by simp)) zz, oth _ _ h t, r⟩
    · refine ⟨?_, fun j v e => ?_⟩
      · rw [Array.toList_push, List.nodup_append]
        refine ⟨hp.1, by simp, fun u hu v hv => ?_⟩
        rw [List.mem_singleton] at hv
        subst hv
        intro z
        subst z
        obtain ⟨j, hj, e⟩ := List.mem_iff_getElem.mp hu
        obtain ⟨T, x, y, ev, _, _, pr2, _⟩ := hp.2 j (.ref s.heap.objs.size) (by rw [← Array.getElem?_toList, List.getElem?_eq_getElem hj, e])
        cases ev
        exact absurd (Heap.lt_size pr2) (Nat.lt_irrefl _)
      rw [Array.getElem?_push] at e
      split at e
      · rename_i hj
        cases e
        obtain rfl : j = i := hj.trans ha
        exact ⟨s.heap.objs.size, _, _, rfl, Array.getElem?_eq_getElem (by omega), Array.getElem?_eq_getElem (by omega), oth _ _ sS pr, hl⟩
      · obtain ⟨T, x, y, ev, e1, e2, pr2, l⟩ := hp.2 j v e
        have hT := old T l
        exact ⟨T, x, y, ev, e1, e2, oth _ _ (fun h => hT (by simp [h])) (kp _ _ (fun h => hT (List.mem_cons_of_mem _ h)) pr2), l⟩
    · exact hR g2 acc' c' (fun c o hc e => kp2 c o hc (oth c o (fun h => hc (by simp [h])) (kp c o (fun h => hc (List.mem_cons_of_mem _ h)) e))) hS2 ha2 hp2
end
end Lz
namespace Lz
open PySem PySem.Spec PySem.Calls PySem.W RZ
theorem no_len : typeLookup (.type "zip") "__len__" = pure none := am_miss_of_fast (by decide +kernel)
theorem no_hint : typeLookup (.type "zip") "__length_hint__" = pure none := am_miss_of_fast (by decide +kernel)
section
variable {prog : Program} {w : World} {A : Around} {E : Value → Shared → Prop} {s : Shared}
theorem zlist {z TI TO i1 i2 a b : Addr} {xs ys : Array Value} {n : Nat} {x0 y0 : Value} {Q : Value → Shared → Prop} (D : ZipApart z TI TO i1 i2 a b) (hh : A.handled = none) (nx : xs.size = n) (ny : ys.size = n) (hn : n ≤ sizeLine)
    (zz : IsZip s.heap z TI TO .none) (pp : IsPair s.heap TI (.ref i1) (.ref i2)) (to : IsPair s.heap TO x0 y0) (u1 : s.heap.IsTupleIter i1 a 0) (u2 : s.heap.IsTupleIter i2 b 0) (ta : s.heap.IsTuple a xs) (tb : s.heap.IsTuple b ys)
    (hQ : ∀ g acc c, (∀ b o, b ∉ [z, TO, i1, i2] → s.heap.get? b = some o → g.get? b = some o) → g.get? s.heap.objs.size = some { cls := .type "list", dict := none, data := .seq acc c, slots := #[] } → acc.size = n → PairsIn xs ys (s.heap.objs.size + 1) g acc → Q (.ref s.heap.objs.size) { s with heap := g }) :
    wpAny (model prog w) A (call (.type "list") [.ref z]) Q E s := by
  have lt : ∀ {c o}, s.heap.get? c = some o → (c : Nat) < s.heap.objs.size := fun e => Heap.lt_size e
  have hz := lt zz
  have l1 : (i1 : Nat) < s.heap.objs.size := let ⟨_, e, _⟩ := u1; lt e
  have l2 : (i2 : Nat) < s.heap.objs.size := let ⟨_, e, _⟩ := u2; lt e
  have la : (a : Nat) < s.heap.objs.size := let ⟨_, e, _⟩ := ta; lt e
  have lb : (b : Nat) < s.heap.objs.size := let ⟨_, e, _⟩ := tb; lt e
  have nS : s.heap.objs.size ∉ [z, TI, TO, i1, i2, a, b] := fun h => by
    simp only [List.mem_cons, List.not_mem_nil, or_false] at h
    rcases h with h | h | h | h | h | h | h
    · exact absurd h (Nat.ne_of_gt hz)
    · exact absurd h (Nat.ne_of_gt (lt pp))
    · exact absurd h (Nat.ne_of_gt (lt to))
    · exact absurd h (Nat.ne_of_gt l1)
    · exact absurd h (Nat.ne_of_gt l2)
    · exact absurd h (Nat.ne_of_gt la)
    · exact absurd h (Nat.ne_of_gt lb)
  have hlo : ∀ c, c ∈ [s.heap.objs.size, z, TO, i1, i2] → (c : Nat) < s.heap.objs.size + 1 := fun c h => by
    simp only [List.mem_cons, List.not_mem_nil, or_false] at h
    rcases h with h | h | h | h | h <;> subst h
    · exact Nat.lt_succ_self _
    · exact Nat.lt_succ_of_lt hz
    · exact Nat.lt_succ_of_lt (lt to)
    · exact Nat.lt_succ_of_lt l1
    · exact Nat.lt_succ_of_lt l2
  refine callType_codes (Q₁ := fun obj s1 => obj = .ref s.heap.objs.size ∧ s1 = { s with heap := s.heap.push { cls := .type "list", data := .seq #[] } }) F.called_list (F.typeCall_list_1 _) F.entry_list_init (code_list_new _ ⟨rfl, rfl⟩) fun obj s1 q1 => ?_
  obtain ⟨rfl, rfl⟩ := q1
  have h0 : (s.heap.push { cls := .type "list", data := .seq #[] }).get? s.heap.objs.size = some { cls := .type "list", data := .seq #[] } := Heap.get?_push_size _ rfl
  refine ⟨⟨_, h0, rfl⟩, F.args_list_init_2 _ _, ?_⟩
  show wpAny (model prog w) _ (do let old ← Builtin.List.listItems (Value.ref s.heap.objs.size); Builtin.List.listUpdate (Value.ref s.heap.objs.size) (fun _ => #[]); letGo old.toList.reverse; Builtin.List.listExtendWith (Value.ref s.heap.objs.size) (Value.ref z) Value.none) _ _ _
  refine wpAny_bind ?_
  unfold Builtin.List.listItems
  refine wpAny_bind (wpAny_seqItems h0 rfl (wpAny_pure ?_))
  show wpAny (model prog w) _ (updateSeq s.heap.objs.size (fun _ => #[]) >>= fun _ => letGo (#[] : Array Value).toList.reverse >>= fun _ => Builtin.List.listExtendWith (Value.ref s.heap.objs.size) (Value.ref z) Value.none) _ _ _
  refine wpAny_bind (wpAny_updateSeq h0 rfl ?_)
  have h2 := Heap.get?_update_self (Obj.mapSeq (fun _ => (#[] : Array Value))) h0 rfl
  refine wpAny_bind (wpAny_letGo ?_)
  unfold Builtin.List.listExtendWith
  have up : ∀ (h : Heap) (f : Obj → Obj), (∀ b o, s.heap.get? b = some o → h.get? b = some o) → ∀ b o, s.heap.get? b = some o → (h.update s.heap.objs.size f).get? b = some o := fun h f q b o e =>
    (Heap.get?_update_other h f (Ne.symm (Nat.ne_of_lt (Heap.lt_size e)))).trans (q b o e)
  have k1 : ∀ b o, s.heap.get? b = some o → (s.heap.push { cls := .type "list", data := .seq #[] }).get? b = some o := fun b o e => Heap.get?_push_of_some _ e
  have k2 := up _ (Obj.mapSeq (fun _ => (#[] : Array Value))) k1
  have ty : ∀ {h : Heap}, (∀ b o, s.heap.get? b = some o → h.get? b = some o) → ({ s with heap := h } : Shared).TypeIs (.ref z) "zip" := fun {h} q => ⟨_, q _ _ zz, rfl⟩
  refine wpAny_bind (wpAny_typeOf (T := "zip") (ty k2) ?_)
  have c1 : Builtin.List.listSameRef (Value.ref s.heap.objs.size) (Value.ref z) = false := by simp [Builtin.List.listSameRef, Nat.ne_of_gt hz]
  have c2 : (Value.type "zip" == Value.type "list") = false := by decide
  have c3 : (Value.type "zip" == Value.type "tuple") = false := by decide
  simp only [c1, c2, c3, Bool.or_false, Bool.false_eq_true, if_false]
  refine wpAny_bind (wpAny_pyIter_zip (s := { s with heap := _ }) (k2 _ _ zz) ?_)
  refine wpAny_bind (wpAny_holding ?_)
  unfold Builtin.List.listLengthHint
  refine wpAny_bind (wpAny_specialOf (ty k2) no_len ?_)
  show wpAny (model prog w) _ (specialOf (Value.ref z) (Str.ofString "__length_hint__") >>= _) _ _ _
  refine wpAny_bind (wpAny_specialOf (ty k2) no_hint ?_)
  refine wpAny_pure ?_
  show wpAny (model prog w) _ (rule "list.extend.makes-room" >>= fun _ => Builtin.List.listTouch (Value.ref s.heap.objs.size) >>= fun _ => again (.builtin "list.extend.loop" ⟨[Value.ref s.heap.objs.size, Value.ref z, Value.none], []⟩)) _ _ _
  refine wpAny_bind (wpAny_rule ?_)
  refine wpAny_bind ?_
  show wpAny (model prog w) _ (updateSeq s.heap.objs.size (·.push Value.none) >>= fun _ => updateSeq s.heap.objs.size (·.pop)) _ _ _
  refine wpAny_bind (wpAny_updateSeq h2 rfl ?_)
  have h3 := Heap.get?_update_self (Obj.mapSeq (·.push Value.none)) h2 rfl
  refine wpAny_updateSeq (hz := by seq_fits) h3 rfl ?_
  have h4 := Heap.get?_update_self (Obj.mapSeq (·.pop)) h3 rfl
  have k4 := up _ (Obj.mapSeq (·.pop)) (up _ (Obj.mapSeq (·.push Value.none)) k2)
  refine wpAny_pure ⟨plainId_quiet F.plain_extend_loop _, ?_⟩
  exact zloop (A := A.in1) D hh nx ny hn s.heap.objs.size nS hlo .none n 0 _ #[] _ rfl (Nat.zero_le _) (Heap.lt_size h4) ⟨k4 _ _ pp, u1.at fun o e => k4 _ o e, u2.at fun o e => k4 _ o e, ta.at fun o e => k4 _ o e, tb.at fun o e => k4 _ o e, .inl ⟨k4 _ _ zz, _, _, k4 _ _ to⟩⟩ h4 rfl ⟨by simp, fun j v e => by simp at e⟩
    fun g acc c kp e1 e2 e3 => ⟨rfl, hQ g acc c (fun b o hb e => kp b o (fun h => by
      rcases List.mem_cons.mp h with h | h
      · exact absurd h (Nat.ne_of_lt (Heap.lt_size e))
      · exact hb h) (k4 b o e)) e1 e2 e3⟩
end
end Lz
namespace Lz
open PySem PySem.Spec PyProof.Rows L2 RZ
/-- the pairs at these addresses -/
def layL (H : Hp) : List (Addr × V × V) → Hp
  | [] => H
  | (T, x, y) :: r => layL (upd H T (.tup [x, y])) r
section
variable {X : Cx} {pins : List (Addr × Obj)} {σ : L2.St} {H : Hp} {s : Shared}
theorem lay_inv {g : Heap} : ∀ (ps : List (Addr × V × V)) (h : Heap) (H : Hp), Inv X pins σ H { s with heap := h } → (∀ b o, h.get? b = some o → g.get? b = some o) → (∀ p ∈ ps, h.get? p.1 = none ∧ H p.1 = none ∧ ∃ u v, RelV p.2.1 u ∧ RelV p.2.2 v ∧ PySem.IsPair g p.1 u v) → (ps.map (·.1)).Nodup → Inv X pins σ (layL H ps) { s with heap := g }
  | [], h, H, I, k, _, _ => I.kept (t' := s.toks) k
  | (T, x, y) :: ps, h, H, I, k, hp, nd => by
    obtain ⟨h1, h2, u, v, ru, rv, pr⟩ := hp (T, x, y) (List.mem_cons_self ..)
    rw [List.map_cons, List.nodup_cons] at nd
    obtain ⟨G, g1, g2⟩ := L2.restrict g fun b => (h.get? b).isSome || decide (b = T)
    have kG : ∀ b o, h.get? b = some o → G.get? b = some o := fun b o e => by rw [g1 b (by rw [e]; rfl)]; exact k b o e
    have Gg : ∀ b o, G.get? b = some o → g.get? b = some o := fun b o e => by
      cases q : ((h.get? b).isSome || decide (b = T)) with
      | true => rw [← g1 b q]; exact e
      | false => rw [g2 b q] at e; cases e
    have pG : PySem.IsPair G T u v := by
      have := g1 T (by simp)
      exact this.trans pr
    have I1 : Inv X pins σ (upd H T (.tup [x, y])) { s with heap := G } := I.laidN (t' := s.toks) kG h1 h2 ⟨by show 2 ≤ sizeLine; decide, [u, v], .cons ru (.cons rv .nil), _, pG, rfl, _, rfl⟩
    refine lay_inv ps G _ I1 Gg (fun p hm => ?_) nd.2
    obtain ⟨q1, q2, q3⟩ := hp p (List.mem_cons_of_mem _ hm)
    have ne : p.1 ≠ T := fun e => nd.1 (by rw [← e]; exact List.mem_map.mpr ⟨p, hm, rfl⟩)
    exact ⟨g2 p.1 (by rw [q1]; simp [ne]), by rw [upd_ne ne]; exact q2, q3⟩
theorem layL_none : ∀ {ps : List (Addr × V × V)} {H : Hp} {b : Addr}, H b = none → (∀ p ∈ ps, p.1 ≠ b) → layL H ps b = none
  | [], H, b, h, _ => h
  | (T, x, y) :: ps, H, b, h, hp => layL_none (H := upd H T (.tup [x, y])) (by rw [upd_ne (Ne.symm (hp (T, x, y) (List.mem_cons_self ..)))]; exact h) fun p hm => hp p (List.mem_cons_of_mem _ hm)
end
/-- list(zip(a, b)): two tuples of one length; new pairs, then the list of them -/
def tLZ (K : PySem.W.Frag) (ta : TA) : TE := fun σ H Q => ta σ H fun vs H1 => ∃ a b xs ys, vs = [.ref a, .ref b] ∧ SqT K H1 a xs ∧ SqT K H1 b ys ∧ xs.length = ys.length ∧
  ∀ (ps : List (Addr × V × V)) (S : Addr), ps.map (·.2) = xs.zip ys → (ps.map (·.1)).Nodup → (∀ p ∈ ps, H1 p.1 = none) → H1 S = none → (∀ p ∈ ps, p.1 ≠ S) → Q (.ref S) (upd (layL H1 ps) S (.lst (ps.map fun p => V.ref p.1)))
theorem acc_go {lo : Nat} {g : Heap} : ∀ {xs : List V} {us : List Value}, Vals xs us → ∀ {ys : List V} {vs : List Value}, Vals ys vs → ∀ L : List Value, L.length = xs.length → xs.length = ys.length →
    (∀ (j : Nat) (v : Value), L[j]? = some v → ∃ (T : Addr) (x y : Value), v = .ref T ∧ us[j]? = some x ∧ vs[j]? = some y ∧ PySem.IsPair g T x y ∧ lo ≤ T) →
    ∃ ps : List (Addr × V × V), ps.map (·.2) = xs.zip ys ∧ L = ps.map (fun p => Value.ref p.1) ∧ ∀ p ∈ ps, lo ≤ (p.1 : Nat) ∧ ∃ u v, RelV p.2.1 u ∧ RelV p.2.2 v ∧ PySem.IsPair g p.1 u v
  | _, _, .nil, _, _, _, [], _, _, _ => ⟨[], rfl, rfl, fun _ z => nomatch z⟩
  | _, _, .nil, _, _, _, _ :: _, h, _, _ => by simp at h
  | _, _, .cons _ _, _, _, .nil, _, _, h, _ => by simp at h
  | _, _, .cons _ _, _, _, .cons _ _, [], h, _, _ => by simp at h
  | _, _, .cons r rx, _, _, .cons r' ry, v :: L, h, h2, hp => by
    obtain ⟨T, x, y, rfl, e1, e2, pr, l⟩ := hp 0 v rfl
    cases e1
    cases e2
    obtain ⟨ps, p1, p2, p3⟩ := acc_go rx ry L (by simpa using h) (by simpa using h2) fun j v e => by
      have := hp (j + 1) v (by simpa using e)
      simpa using this
    refine ⟨(T, _, _) :: ps, by rw [List.map_cons, p1]; rfl, by rw [List.map_cons, ← p2], fun p hm => ?_⟩
    rcases List.mem_cons.mp hm with rfl | hm
    · exact ⟨l, _, _, r, r', pr⟩
    · exact p3 p hm
theorem acc_ps {xs ys : List V} {us vs : List Value} {lo : Nat} {g : Heap} {acc : Array Value} (rx : Vals xs us) (ry : Vals ys vs) (hl : xs.length = ys.length) (hn : acc.size = xs.length) (hp : PairsIn us.toArray vs.toArray lo g acc) :
    ∃ ps : List (Addr × V × V), ps.map (·.2) = xs.zip ys ∧ acc.toList = ps.map (fun p => Value.ref p.1) ∧ ∀ p ∈ ps, lo ≤ (p.1 : Nat) ∧ ∃ u v, RelV p.2.1 u ∧ RelV p.2.2 v ∧ PySem.IsPair g p.1 u v :=
  acc_go rx ry acc.toList (by simpa using hn) hl fun j v e => by
    obtain ⟨T, x, y, ev, e1, e2, pr, l⟩ := hp.2 j v (by rw [← Array.getElem?_toList]; exact e)
    exact ⟨T, x, y, ev, by simpa using e1, by simpa using e2, pr, l⟩
theorem none_at {h : Heap} {T : Addr} (l : h.objs.size ≤ (T : Nat)) : h.get? T = none := by
  cases e : h.get? T with
  | none => rfl
  | some o => exact absurd (Heap.lt_size e) (Nat.not_lt.mpr l)
theorem refs_vals : ∀ ps : List (Addr × V × V), Vals (ps.map fun p => V.ref p.1) (ps.map fun p => Value.ref p.1)
  | [] => .nil
  | _ :: ps => .cons rfl (refs_vals ps)
theorem pe_listZip {X : Cx} {e e2 : Expr} {ta : TA} {p p2 pos pos2 : Pos} (hc : X.calm = true) (hg : Gl X "list") (hm : X.mg "list" = none) (hg2 : Gl X "zip") (hm2 : X.mg "zip" = none) (ha : PA X [e, e2] ta)
    (hs : starEach [e, e2] X.env = (false, eval e X.env) :: starEach [e2] X.env := by rfl) (hpl : (backTo pos2 (starEach [e2] X.env)).any (·.1) = false := by rfl)
    (hs0 : starEach [Expr.Call (.Name "zip" p2) [e, e2] [] pos2] X.env = (false, eval (.Call (.Name "zip" p2) [e, e2] [] pos2) X.env) :: starEach [] X.env := by rfl) :
    PE X (.Call (.Name "list" p) [.Call (.Name "zip" p2) [e, e2] [] pos2] [] pos) (tLZ X.K ta) := by
  refine ⟨fun pins s σ H Q I h => ?_⟩
  refine Call_ (ld_blt I hg hm PyProof.Rows.boot_list (PyProof.Rows.callWith_type1 ?_ hs0 rfl))
  rw [hs0]
  refine Calls.spliced_cons ?_
  refine Call_ (ld_blt I hg2 hm2 PyProof.Rows.boot_zip (PyProof.Rows.callWith_type1 (thn (ha.run pos2 pins s σ H _ I h) fun us s1 ⟨vs, H1, I1, r1, q1⟩ => ?_) hs hpl))
  obtain ⟨a, b, xs, ys, ex, hqx, hqy, hl, q⟩ := q1
  subst ex
  cases r1 with
  | cons r rr =>
    cases rr with
    | cons r' rr =>
      cases rr
      cases r
      cases r'
      obtain ⟨us, rx, pa, zx⟩ := I1.tuple hqx
      obtain ⟨vs, ry, pb, zy⟩ := I1.tuple hqy
      obtain ⟨oa, hoa, _⟩ := id pa
      obtain ⟨ob, hob, _⟩ := id pb
      refine call_zipT (show s1.heap.IsTuple a us.toArray from pa) (show s1.heap.IsTuple b vs.toArray from pb) fun g1 zz pp to u1 u2 sz k1 => ?_
      refine Calls.spliced_nil ?_
      have D := PySem.W.ktu_apart s1.heap.objs.size a b (Heap.lt_size hoa) (Heap.lt_size hob)
      have lx := rx.length
      have ly := ry.length
      refine zlist (n := xs.length) D (I1.ok.hd hc) (by simp; omega) (by simp; omega) zx zz pp to u1 u2 (Heap.IsTuple.at (h' := g1) (show s1.heap.IsTuple a us.toArray from pa) fun o e => k1 _ o e) (Heap.IsTuple.at (h' := g1) (show s1.heap.IsTuple b vs.toArray from pb) fun o e => k1 _ o e) fun g acc c kp eS ea hp => ?_
      obtain ⟨ps, p1, p2, p3⟩ := acc_ps rx ry hl ea hp
      have big : ∀ p ∈ ps, s1.heap.objs.size ≤ (p.1 : Nat) := fun p hm => by have := (p3 p hm).1; simp only [sz] at this; omega
      have neS : ∀ p ∈ ps, p.1 ≠ g1.objs.size := fun p hm e => by
        have := (p3 p hm).1
        rw [e] at this
        exact absurd this (Nat.not_succ_le_self _)
      have k2 : ∀ b o, s1.heap.get? b = some o → g.get? b = some o := fun b o e => by
        have lb : (b : Nat) < s1.heap.objs.size := Heap.lt_size e
        refine kp b o (fun h => ?_) (k1 b o e)
        simp only [List.mem_cons, List.not_mem_nil, or_false] at h
        rcases h with h | h | h | h <;> subst h <;> exact absurd lb (by first | exact Nat.not_lt.mpr (Nat.le_add_right _ _) | exact Nat.lt_irrefl _)
      have nd : (ps.map (·.1)).Nodup := by
        have h := hp.1
        rw [p2, show (ps.map fun p => Value.ref p.1) = (ps.map (·.1)).map Value.ref by rw [List.map_map]; rfl] at h
        exact (List.pairwise_map.mp h).imp fun hne e => hne (by rw [e])
      obtain ⟨G, g2, g3⟩ := L2.restrict g fun b => decide (b ≠ g1.objs.size)
      have Gg : ∀ b o, G.get? b = some o → g.get? b = some o := fun b o e => by
        cases q : decide (b ≠ g1.objs.size) with
        | true => rw [← g2 b q]; exact e
        | false => rw [g3 b q] at e; cases e
      have kG : ∀ b o, s1.heap.get? b = some o → G.get? b = some o := fun b o e => by
        have lb : (b : Nat) < s1.heap.objs.size := Heap.lt_size e
        rw [g2 b (decide_eq_true fun h => by rw [h, sz] at lb; exact absurd lb (Nat.not_lt.mpr (Nat.le_add_right _ _)))]
        exact k2 b o e
      have I3 := lay_inv (X := X) (pins := pins) (σ := σ) (s := s1) ps s1.heap H1 I1 kG (fun p hm => ⟨none_at (big p hm), I1.hok.fresh (big p hm), by
        obtain ⟨u, v, r1, r2, pr⟩ := (p3 p hm).2
        exact ⟨u, v, r1, r2, (g2 p.1 (decide_eq_true (neS p hm))).trans pr⟩⟩) nd
      have hS : H1 g1.objs.size = none := I1.hok.fresh (by rw [sz]; exact Nat.le_add_right _ _)
      have lps : (ps.map fun p => V.ref p.1).length ≤ sizeLine := by
        have := congrArg List.length p2
        rw [List.length_map, Array.length_toList, ea] at this
        rw [List.length_map]
        omega
      exact ⟨.ref g1.objs.size, _, I3.laidN (t' := s1.toks) (o := .lst (ps.map fun p => V.ref p.1)) Gg (g3 _ (by simp)) (layL_none hS neS) ⟨lps, acc.toList, c, by rw [p2]; exact refs_vals ps, by rw [Array.toArray_toList]; exact eS⟩, rfl, q ps _ p1 nd (fun p hm => I1.hok.fresh (big p hm)) hS neS⟩
end Lz
/-! list(zip(a, b)) of two tuples of data -/
namespace Dz
open PySem PySem.Spec PyProof.Rows L2 Lz
/-- the pairs of two tuples of one length -/
def zipLin (ds : List D) : Sta → Res Lin := fun s => match ds with
  | [.p (.tup xs), .p (.tup ys)] => if xs.length = ys.length then .ok (.lst ((xs.zip ys).map fun q => .tup [q.1, q.2])) s else .bad
  | _ => .bad
section
variable {X : Cx} {G : Env} {σ σ' : L2.St} {w w1 w' : Wo} {H H1 H' : Hp} {s s1 s' : Sta} {K : PySem.W.Frag} {mg : Str → Option Value} {B : Ba}
theorem lay_wd : ∀ {ps : List (Addr × V × V)} {H : Hp}, Wd K mg B w σ s H → (∀ p ∈ ps, H p.1 = none) → (ps.map (·.1)).Nodup → Mono w H w (layL H ps) ∧ Wd K mg B w σ s (layL H ps) ∧ ∀ p ∈ ps, layL H ps p.1 = some (.tup [p.2.1, p.2.2])
  | [], H, W, _, _ => ⟨Mono.refl, W, fun _ z => nomatch z⟩
  | (T, x, y) :: ps, H, W, hn, nd => by
    rw [List.map_cons, List.nodup_cons] at nd
    have nT := hn (T, x, y) (List.mem_cons_self ..)
    obtain ⟨mo, W', _⟩ := W.bare (o := .tup [x, y]) nT
    have ne : ∀ p ∈ ps, p.1 ≠ T := fun p hp e => nd.1 (by rw [← e]; exact List.mem_map.mpr ⟨p, hp, rfl⟩)
    obtain ⟨m2, W2, h2⟩ := lay_wd (ps := ps) W' (fun p hp => by rw [upd_ne (ne p hp)]; exact hn p (List.mem_cons_of_mem _ hp)) nd.2
    refine ⟨mo.trans m2, W2, fun p hp => ?_⟩
    rcases List.mem_cons.mp hp with rfl | hp
    · exact m2.imm.tup _ _ upd_same
    · exact h2 p hp
theorem zip_td {q : Bool} {I : Addr → Prop} : ∀ {xs : List P} {vs : List V}, TdL K q H I xs vs → ∀ {ys : List P} {us : List V}, TdL K q H I ys us → xs.length = ys.length → ∀ {ps : List (Addr × V × V)}, ps.map (·.2) = vs.zip us → (∀ p ∈ ps, H p.1 = some (.tup [p.2.1, p.2.2])) →
    TdL K q H I ((xs.zip ys).map fun z => P.tup [z.1, z.2]) (ps.map fun p => V.ref p.1)
  | _, _, .nil, _, _, .nil, _, [], _, _ => .nil
  | _, _, .nil, _, _, .nil, _, _ :: _, e, _ => by simp at e
  | _, _, .nil, _, _, .cons _ _, h, _, _, _ => by simp at h
  | _, _, .cons _ _, _, _, .nil, h, _, _, _ => by simp at h
  | _, _, .cons _ _, _, _, .cons _ _, _, [], e, _ => by simp at e
  | _, _, .cons a t, _, _, .cons b u, h, (T, x, y) :: ps, e, hp => by
    rw [List.map_cons, List.zip_cons_cons] at e
    injection e with e1 e2
    cases e1
    exact .cons (.tup (hp _ (List.mem_cons_self ..)) (.cons a (.cons b .nil))) (zip_td t u (by simpa using h) e2 fun p hm => hp p (List.mem_cons_of_mem _ hm))
theorem vd_two {x y : P} {vs : List V} (h : VdL K H w [.p x, .p y] vs) : ∃ v u, vs = [v, u] ∧ Td K false H w.I x v ∧ Td K false H w.I y u := by
  cases h with
  | cons a t =>
    cases t with
    | cons b t =>
      cases t
      cases a with
      | p a =>
        cases b with
        | p b => exact ⟨_, _, rfl, a, b⟩
theorem td_tup {xs : List P} {v : V} {I : Addr → Prop} (h : Td K false H I (.tup xs) v) : ∃ a vs, v = .ref a ∧ H a = some (.tup vs) ∧ TdL K false H I xs vs := by
  cases h with
  | tup h t => exact ⟨_, _, rfl, h, t⟩
  | tupK e _ _ => cases e
theorem df_listZip {a b : Expr} {p p2 pos pos2 : Pos} {fa : Sta → Res (List D)} (hc : X.calm = true) (hg : Gl X "list") (hm : X.mg "list" = none) (hg2 : Gl X "zip") (hm2 : X.mg "zip" = none) (ha : DA X G [a, b] fa)
    (hs : starEach [a, b] X.env = (false, eval a X.env) :: starEach [b] X.env := by rfl) (hpl : (backTo pos2 (starEach [b] X.env)).any (·.1) = false := by rfl)
    (hs0 : starEach [Expr.Call (.Name "zip" p2) [a, b] [] pos2] X.env = (false, eval (.Call (.Name "zip" p2) [a, b] [] pos2) X.env) :: starEach [] X.env := by rfl) :
    DF X G (.Call (.Name "list" p) [.Call (.Name "zip" p2) [a, b] [] pos2] [] pos) (bnd fa zipLin) :=
  PEi (pe_listZip hc hg hm hg2 hm2 ha hs hpl hs0) fun σ H Q ⟨w, s, W, h⟩ => by
    show tA X G fa σ H _
    refine ⟨w, s, W, PostF.bind h fun ds s1 vs w1 H1 m1 W1 r1 h1 => ?_⟩
    unfold zipLin at h1
    split at h1
    · rename_i xs ys
      split at h1
      · rename_i hl
        obtain ⟨v, u, rfl, t1, t2⟩ := vd_two r1
        obtain ⟨a1, vs1, rfl, g1, td1⟩ := td_tup t1
        obtain ⟨a2, vs2, rfl, g2, td2⟩ := td_tup t2
        refine ⟨a1, a2, vs1, vs2, rfl, .inl (.inl g1), .inl (.inl g2), by rw [← td1.len, ← td2.len]; exact hl, fun ps S e nd hn hS ne => ?_⟩
        obtain ⟨mo, W2, h2⟩ := lay_wd W1 hn nd
        have hS2 : layL H1 ps S = none := layL_none hS ne
        exact PostF.new W2 hS2 (fun mo2 => .lst upd_same ((zip_td (td1.mono mo.imm) (td2.mono mo.imm) hl e h2).mono mo2.imm)) (h1.at mo)
      · exact h1.elim
    · exact h1.elim
end
end Dz
/-! classes: attributes, methods, new instances -/
namespace Dz
open PySem PySem.Spec PyProof.Rows L2
/-- a table of classes: their names, the attributes of their instances -/
abbrev CTab := List (Str × List Str)
def okF (T : CTab) (C f : Str) : Bool := T.any fun x => decide (x.1 = C) && x.2.contains f
structure ClsT (K : PySem.W.Frag) (mg : Str → Option Value) (T : CTab) : Prop where
  ex : ∀ x ∈ T, ∃ c, mg x.1 = some (.ref c) ∧ Cls K c ∧ ∀ f ∈ x.2, NoAttr K c f
theorem ClsT.at {K : PySem.W.Frag} {mg : Str → Option Value} {T : CTab} (h : ClsT K mg T) {C f : Str} {c : Addr} (ok : okF T C f = true) (e : mg C = some (.ref c)) : Cls K c ∧ NoAttr K c f := by
  unfold okF at ok
  rw [List.any_eq_true] at ok
  obtain ⟨x, hx, h2⟩ := ok
  rw [Bool.and_eq_true, decide_eq_true_eq] at h2
  obtain ⟨c', e', k, n⟩ := h.ex x hx
  rw [h2.1, e] at e'
  cases e'
  exact ⟨k, n f (by simpa using h2.2)⟩
/-- the attribute f of d -/
def fldD (T : CTab) (f : Str) (d : D) (s : Sta) : Option D := match d with
  | .loc n => match s.st with
    | some S => match S[n]? with
      | some (.ins C fs) => if okF T C f = true then fs.lookup f else none
      | _ => none
    | none => none
  | _ => none
def fldE (T : CTab) (f : Str) (g : Ev) : Ev := bnd g fun d s => match fldD T f d s with
  | some x => .ok x s
  | none => .bad
def putFD (f : Str) (v : D) : List (Str × D) → List (Str × D)
  | [] => [(f, v)]
  | (g, x) :: r => if g = f then (g, v) :: r else (g, x) :: putFD f v r
def setFD (T : CTab) (f : Str) (d v : D) (s : Sta) : Option Sta := match d with
  | .loc n => match s.st with
    | some S => match S[n]? with
      | some (.ins C fs) => if okF T C f = true ∧ fs.length < 1000 then some ⟨s.sl, some (S.set n (.ins C (putFD f v fs)))⟩ else none
      | _ => none
    | none => none
  | _ => none
/-- o.f = e -/
def fldS (T : CTab) (f : Str) (go gv : Ev) : Ex := bndS gv fun v => bndS go fun d s => match setFD T f d v s with
  | some s' => .nx s'
  | none => .bad
/-- the target o.f -/
def fldG (T : CTab) (f : Str) (go : Ev) : Tg := fun v s => match go s with
  | .ok d s' => setFD T f d v s'
  | _ => none
section
variable {X : Cx} {G : Env} {σ σ' : L2.St} {w w1 w' : Wo} {H H1 H' : Hp} {s s1 s' : Sta} {K : PySem.W.Frag} {mg : Str → Option Value} {B : Ba}
variable {a b c e o value : Expr} {es : List Expr} {f g h go gv : Ev} {pos pos' p apos : Pos} {T : CTab} {x fn : Str}
variable {P : Program} {wd : World} {base : Heap}
theorem VdK.lookup {fs : List (Str × D)} {vs : List (Str × V)} {f : Str} {d : D} (t : VdK K H w fs vs) (e : fs.lookup f = some d) : ∃ v, vs.lookup f = some v ∧ Vd K H w d v := by
  induction t with
  | nil => cases e
  | @cons k y ys v us h _ ih =>
    rw [List.lookup_cons] at e ⊢
    cases hk : f == k with
    | true => rw [hk] at e; cases e; exact ⟨v, rfl, h⟩
    | false => rw [hk] at e; exact ih e
theorem VdK.putF {fs : List (Str × D)} {vs : List (Str × V)} {f : Str} {d : D} {v : V} (t : VdK K H w fs vs) (h : Vd K H w d v) : VdK K H w (putFD f d fs) (L2.putF f v vs) := by
  induction t with
  | nil => exact .cons h .nil
  | @cons k y ys u us h1 t ih =>
    show VdK K H w (if k = f then (k, d) :: ys else (k, y) :: putFD f d ys) (if k = f then (k, v) :: us else (k, u) :: L2.putF f v us)
    by_cases e : k = f
    · rw [if_pos e, if_pos e]; exact .cons h t
    · rw [if_neg e, if_neg e]; exact .cons h1 ih
theorem VdK.lenK {κ : Type} {fs : List (κ × D)} {vs : List (κ × V)} (t : VdK K H w fs vs) : fs.length = vs.length := by
  induction t with
  | nil => rfl
  | cons _ _ ih => rw [List.length_cons, List.length_cons, ih]
theorem VdK.lookup_none {fs : List (Str × D)} {vs : List (Str × V)} {f : Str} (t : VdK K H w fs vs) (e : fs.lookup f = none) : vs.lookup f = none := by
  induction t with
  | nil => rfl
  | @cons k y ys v us h _ ih =>
    rw [List.lookup_cons] at e ⊢
    cases hk : f == k with
    | true => rw [hk] at e; cases e
    | false => rw [hk] at e; exact ih e
/-- an instance of the store -/
theorem ins_at {n : Nat} {v : V} {S : List MO} {C : Str} {fs : List (Str × D)} (W : Wd K mg B w σ s H) (hv : Vd K H w (.loc n) v) (es : s.st = some S) (en : S[n]? = some (.ins C fs)) : ∃ a c dx vs, v = .ref a ∧ w.ρ[n]? = some a ∧ mg C = some (.ref c) ∧ H a = some (.ins c dx vs) ∧ H dx = some (.own a) ∧ VdK K H w fs vs := by
  cases hv with
  | @loc n a hn =>
    have so := W.sto
    rw [es] at so
    cases so.2 n a _ hn en with
    | ins g h o t => exact ⟨a, _, _, _, rfl, hn, g, h, o, t⟩
theorem fldD_inv {f : Str} {d x : D} (e : fldD T f d s = some x) : ∃ n S C fs, d = .loc n ∧ s.st = some S ∧ S[n]? = some (.ins C fs) ∧ okF T C f = true ∧ fs.lookup f = some x := by
  cases d with
  | loc n =>
    unfold fldD at e
    cases es : s.st with
    | none => simp only [es] at e; cases e
    | some S =>
      simp only [es] at e
      split at e
      · rename_i C fs en
        split at e
        · rename_i ok
          exact ⟨n, S, C, fs, rfl, rfl, en, ok, e⟩
        · cases e
      · cases e
  | _ => cases e
theorem setFD_inv {f : Str} {d v : D} {s2 : Sta} (e : setFD T f d v s = some s2) : ∃ n S C fs, d = .loc n ∧ s.st = some S ∧ S[n]? = some (.ins C fs) ∧ okF T C f = true ∧ fs.length < 1000 ∧ s2 = ⟨s.sl, some (S.set n (.ins C (putFD f v fs)))⟩ := by
  cases d with
  | loc n =>
    unfold setFD at e
    cases es : s.st with
    | none => simp only [es] at e; cases e
    | some S =>
      simp only [es] at e
      split at e
      · rename_i C fs en
        split at e
        · rename_i ok
          cases e
          exact ⟨n, S, C, fs, rfl, rfl, en, ok.1, ok.2, rfl⟩
        · cases e
      · cases e
  | _ => cases e
theorem de_fld {f : Str} {g : Ev} (hC : ClsT X.K X.mg T) (he : DE X G e g) (hb : attributeBase e f X.env (eval e X.env) = eval e X.env := by rfl) : DE X G (.Attribute e f pos) (fldE T f g) :=
  PEi (pe_fld he hb) fun σ H Q ⟨w, s, W, h⟩ => ⟨w, s, W, h.bind fun d s1 v w1 H1 m1 W1 r1 h1 => by
    split at h1
    · rename_i x ex
      obtain ⟨n, S, C, fs, rfl, es, en, ok, ex⟩ := fldD_inv ex
      obtain ⟨a, c, dx, vs, rfl, hn, hg, ha, ho, t⟩ := ins_at W1 r1 es en
      obtain ⟨k, nf⟩ := hC.at ok hg
      obtain ⟨u, lu, hu⟩ := t.lookup ex
      exact ⟨a, c, dx, vs, u, rfl, ha, k, nf, lu, Post.here (R := RD X) W1 hu h1⟩
    · exact h1.elim⟩
/-- an attribute is stored -/
theorem setF_at {f : Str} {d v : D} {ov vv : V} {s2 : Sta} (hC : ClsT X.K X.mg T) (W : Wd X.K X.mg G.B w σ s H) (ho : Vd X.K H w d ov) (hv : Vd X.K H w v vv) (e : setFD T f d v s = some s2) :
    ∃ a C dx fs, ov = .ref a ∧ H a = some (.ins C dx fs) ∧ Cls X.K C ∧ NoAttr X.K C f ∧ fs.length < 1000 ∧ ∃ w', Mono w H w' (upd H a (.ins C dx (L2.putF f vv fs))) ∧ Wd X.K X.mg G.B w' σ s2 (upd H a (.ins C dx (L2.putF f vv fs))) := by
  obtain ⟨n, S, C, fs, rfl, es, en, ok, hl, rfl⟩ := setFD_inv e
  obtain ⟨a, c, dx, vs, rfl, hn, hg, ha, hox, t⟩ := ins_at W ho es en
  obtain ⟨k, nf⟩ := hC.at ok hg
  have nd : dx ≠ a := fun z => by rw [z, ha] at hox; cases hox
  have am : a ∈ w.ρ := List.mem_of_getElem? hn
  have mo : Mono w H w (upd H a (.ins c dx (L2.putF f vv vs))) := .wr (W.snd.ri a am)
  refine ⟨a, c, dx, vs, rfl, ha, k, nf, by rw [← t.lenK]; exact hl, w, ?_⟩
  have := W.wrS (u := .ins c dx (L2.putF f vv vs)) (m' := .ins C (putFD f v fs)) es hn en (.ins hg upd_same (by rw [upd_ne nd]; exact hox) ((t.mono mo).putF (hv.mono mo))) (by intro c z; rw [ha] at z; cases z)
  exact ⟨this.2, this.1⟩
theorem ds_fld {f : Str} (hC : ClsT X.K X.mg T) (ha : DE X G o go) (hv : DE X G value gv) (hs : swapsWith value (some (.Attribute o f pos')) pos.line X.env = pure false := by rfl) : DS X G (.Assign [.Attribute o f pos'] value pos) (fldS T f go gv) :=
  PSi (ps_fld ha hv hs) fun D σ H ⟨w, s, W, h⟩ => ⟨w, s, W, PostS.bind h fun v s1 vv w1 H1 m1 W1 r1 h1 => ⟨w1, s1, W1, PostS.bind h1 fun d s2 ov w2 H2 m2 W2 r2 h2 => by
    split at h2
    · rename_i s3 e3
      obtain ⟨a, C, dx, fs, ea, hH, k, nf, hl, w3, mo, W3⟩ := setF_at hC W2 r2 (r1.mono m2) e3
      exact ⟨a, C, dx, fs, ea, hH, k, nf, hl, h2 σ w3 _ mo W3⟩
    · exact h2.elim⟩⟩
/-- the target o.f -/
def gFld (K : PySem.W.Frag) (to : TE) (f : Str) : TG := fun v σ H Q => to σ H fun x H2 => ∃ a C dx fs, x = .ref a ∧ H2 a = some (.ins C dx fs) ∧ Cls K C ∧ NoAttr K C f ∧ fs.length < 1000 ∧ Q σ (upd H2 a (.ins C dx (L2.putF f v fs)))
theorem pg_fld {o : Expr} {f : Str} {to : TE} (ho : PE X o to) : PG X (.Attribute o f pos) (gFld X.K to f) := by
  refine ⟨fun pins s σ H v u Q I r h => ?_⟩
  rw [PySem.assign_Attribute]
  refine wpAny_bind (wpAny_holding (thn (ho.run pins s σ H _ I h) fun ov s1 ⟨x, H1, I1, r1, a, C, dx, fs, ex, ea, c, n, l, q⟩ => ?_))
  subst ex
  obtain rfl : ov = Value.ref a := r1
  refine wpAny_bind (wpAny_standAt (wpAny_bind (wpAny_holding (setattr_ok I1 ea c n l r fun s3 I3 => ?_))))
  exact wpAny_release ⟨σ, _, I3, q⟩
theorem dg_fld {f : Str} (hC : ClsT X.K X.mg T) (ha : DE X G o go) : DG X G (.Attribute o f pos) (fldG T f go) :=
  PGi (pg_fld ha) fun v σ H Q ⟨w, s, d, W, hv, h⟩ => by
    unfold fldG at h
    refine ⟨w, s, W, ?_⟩
    revert h
    cases e : go s with
    | ok d2 s1 =>
      intro h ov w2 H2 m2 W2 r2
      cases e3 : setFD T f d2 d s1 with
      | none => simp only [e3] at h; exact h.elim
      | some s3 =>
        simp only [e3] at h
        obtain ⟨a, C, dx, fs, ea, hH, k, nf, hl, w3, mo, W3⟩ := setF_at hC W2 r2 (hv.mono m2) e3
        exact ⟨a, C, dx, fs, ea, hH, k, nf, hl, h σ w3 _ (m2.trans mo) W3⟩
    | ex c fs => exact fun h => h.elim
    | bad => exact fun h => h.elim
end
end Dz
/-! methods and new instances -/
namespace Dz
open PySem PySem.Spec PyProof.Rows L2
structure HasMD (P : Program) (wd : World) (K : PySem.W.Frag) (mg : Str → Option Value) (base : Heap) (lv : Nat) (C m : Str) (ps : List Str) (mo : Fn) : Prop where
  here : ∃ c fa fd, mg C = some (.ref c) ∧ Cls K c ∧ Meth K c m fa ∧ FnOk P wd K mg base (L2.CX P wd) lv fa fd ps (spD K mg mo) ∧ Binds K fd ps []
structure HasMk (P : Program) (wd : World) (K : PySem.W.Frag) (mg : Str → Option Value) (base : Heap) (lv : Nat) (C : Str) (ps : List Str) (mo : Fn) : Prop where
  here : ∃ c fa fd, mg C = some (.ref c) ∧ Mk K c fa ∧ PySem.W.keepIn K (.ref c) = true ∧ FnOk P wd K mg base (L2.CX P wd) lv fa fd ps (spD K mg mo) ∧ Binds K fd ps []
def isIns (C m : Str) (d : D) (s : Sta) : Bool := match d with
  | .loc n => match s.st with
    | some S => match S[n]? with
      | some (.ins C' fs) => decide (C' = C) && (fs.lookup m).isNone
      | _ => false
    | none => false
  | _ => false
def runM (mo : Fn) (d : D) (ds : List D) : Ev := fun s => match mo (d :: ds) s.st with
  | .ok d s' => .ok d ⟨s.sl, s'.st⟩
  | .ex c fs => .ex c fs
  | .bad => .bad
/-- o.m(..) -/
def methE (C m : Str) (mo : Fn) (go : Ev) (fa : Sta → Res (List D)) : Ev := bnd go fun d s => if isIns C m d s = true then (bnd fa (runM mo d)) s else .bad
/-- C(..) -/
def runI (C : Str) (mo : Fn) (ds : List D) : Ev := fun s => match s.st with
  | some S => match mo (.loc S.length :: ds) (some (S ++ [.ins C []])) with
    | .ok (.p .non) s' => .ok (.loc S.length) ⟨s.sl, s'.st⟩
    | .ok _ _ => .bad
    | .ex c fs => .ex c fs
    | .bad => .bad
  | none => .bad
def makeE (C : Str) (mo : Fn) (fa : Sta → Res (List D)) : Ev := bnd fa (runI C mo)
section
variable {X : Cx} {G : Env} {σ σ' : L2.St} {w w1 w' : Wo} {H H1 H' : Hp} {s s1 s' : Sta} {K : PySem.W.Frag} {mg : Str → Option Value} {B : Ba}
variable {a b c e o value : Expr} {es : List Expr} {f g h go gv : Ev} {pos pos' p apos : Pos} {x fn C m : Str} {ps : List Str} {mo : Fn} {lv lw : Nat} {fa : Sta → Res (List D)}
variable {P : Program} {wd : World} {base : Heap}
theorem HasMD.mono (F : HasMD P wd K mg base lv C m ps mo) (h : lv ≤ lw) : HasMD P wd K mg base lw C m ps mo := by
  obtain ⟨c, fa, fd, h1, h2, h3, F, h4⟩ := F.here
  exact ⟨c, fa, fd, h1, h2, h3, F.mono h, h4⟩
theorem isIns_inv {d : D} (h : isIns C m d s = true) : ∃ n S fs, d = .loc n ∧ s.st = some S ∧ S[n]? = some (.ins C fs) ∧ fs.lookup m = none := by
  cases d with
  | loc n =>
    unfold isIns at h
    cases es : s.st with
    | none => simp only [es] at h; cases h
    | some S =>
      simp only [es] at h
      split at h
      · rename_i C' fs en
        rw [Bool.and_eq_true, decide_eq_true_eq] at h
        refine ⟨n, S, fs, rfl, rfl, by rw [← h.1]; exact en, ?_⟩
        cases e : fs.lookup m with
        | none => rfl
        | some _ => rw [e] at h; cases h.2
      · cases h
  | _ => cases h
theorem runM_at {d : D} {ds : List D} {v : V} {vs : List V} {Q : VK} (W : Wd X.K X.mg G.B w σ s H) (hv : Vd X.K H w d v) (t : VdL X.K H w ds vs) (h : Post X G (RD X) σ w H (runM mo d ds s) Q) : spD X.K X.mg mo (v :: vs) H Q G.E :=
  callS_at W (.cons hv t) h
theorem de_meth {pl : Sem Bool} (F : HasMD X.prog X.w X.K X.mg X.base lv C m ps mo) (hr : Room lw X.A) (hlv : lv ≤ lw) (hx : Passes (L2.CX X.prog X.w) X G.E) (ho : DE X G o go) (ha : DA X G (e :: es) fa)
    (hst : starEach (e :: es) X.env = (false, eval e X.env) :: starEach es X.env := by rfl) (hpl : (backTo pos (starEach es X.env)).any (·.1) = false := by rfl)
    (ht : eval (.Call (.Attribute o m apos) (e :: es) [] pos) X.env = (do
      let ov ← eval o X.env
      standAt apos.atName
      let (f, first) ← holding [ov] (getMethod ov m pl)
      callWith pos f first (backTo pos (starEach (e :: es) X.env)) (backToKw pos (keywordEach [] X.env))) := by rfl) :
    DE X G (.Call (.Attribute o m apos) (e :: es) [] pos) (methE C m mo go fa) := by
  obtain ⟨c, f1, fd, hc, hcl, hm, Fk, hb⟩ := F.here
  exact PEi (pe_meth ho hcl hm Fk (hr.mono hlv) hb .nil hx ha hst hpl ht) fun σ H Q ⟨w, s, W, h⟩ => ⟨w, s, W, h.bind fun d s1 v w1 H1 m1 W1 r1 h1 => by
    split at h1
    · rename_i hi
      obtain ⟨n, S, fs, rfl, est, en, el⟩ := isIns_inv hi
      obtain ⟨a, c', dx, vs, rfl, hn, hg, ha, hox, t⟩ := ins_at W1 r1 est en
      rw [hc] at hg
      cases hg
      refine ⟨a, dx, vs, rfl, ha, t.lookup_none el, w1, s1, W1, Post.bind h1 fun ds s2 us w2 H2 m2 W2 r2 h2 => ?_⟩
      rw [List.append_nil]
      exact runM_at W2 (r1.mono m2) r2 h2
    · exact h1.elim⟩
theorem de_meth0 {pl : Sem Bool} (F : HasMD X.prog X.w X.K X.mg X.base lv C m ps mo) (hr : Room lw X.A) (hlv : lv ≤ lw) (hx : Passes (L2.CX X.prog X.w) X G.E) (ho : DE X G o go)
    (ht : eval (.Call (.Attribute o m apos) [] [] pos) X.env = (do
      let ov ← eval o X.env
      standAt apos.atName
      let (f, first) ← holding [ov] (getMethod ov m pl)
      callWith pos f first (backTo pos (starEach [] X.env)) (backToKw pos (keywordEach [] X.env))) := by rfl) :
    DE X G (.Call (.Attribute o m apos) [] [] pos) (methE C m mo go nilA) := by
  obtain ⟨c, f1, fd, hc, hcl, hm, Fk, hb⟩ := F.here
  exact PEi (pe_meth0 ho hcl hm Fk (hr.mono hlv) hb .nil hx ht) fun σ H Q ⟨w, s, W, h⟩ => ⟨w, s, W, h.bind fun d s1 v w1 H1 m1 W1 r1 h1 => by
    split at h1
    · rename_i hi
      obtain ⟨n, S, fs, rfl, est, en, el⟩ := isIns_inv hi
      obtain ⟨a, c', dx, vs, rfl, hn, hg, ha, hox, t⟩ := ins_at W1 r1 est en
      rw [hc] at hg
      cases hg
      refine ⟨a, dx, vs, rfl, ha, t.lookup_none el, ?_⟩
      show spD X.K X.mg mo (V.ref a :: ([] ++ [])) H1 Q G.E
      exact runM_at W1 r1 .nil h1
    · exact h1.elim⟩
theorem runI_at {cl : Addr} {ds : List D} {vs : List V} {Q : VK} {y dx : Addr} (hc : X.mg C = some (.ref cl)) (W : Wd X.K X.mg G.B w σ s H) (t : VdL X.K H w ds vs) (hy : H y = none) (hd : H dx = none) (ne : dx ≠ y) (h : Post X G (RD X) σ w H (runI C mo ds s) Q) :
    spD X.K X.mg mo (.ref y :: vs) (upd (upd H dx (.own y)) y (.ins cl dx [])) (fun v H2 => v = .non ∧ Q (.ref y) H2) G.E := by
  unfold runI at h
  cases es : s.st with
  | none => simp only [es] at h; exact h.elim
  | some S =>
    simp only [es] at h
    obtain ⟨m1, W1, n1, _⟩ := W.bare (o := .own y) hd
    have hy1 : upd H dx (.own y) y = none := by rw [upd_ne ne.symm]; exact hy
    obtain ⟨m2, W2, k1, k2, k3, k4⟩ := W1.bare (o := .ins cl dx []) hy1
    have hox : upd (upd H dx (.own y)) y (.ins cl dx []) dx = some (.own y) := by rw [upd_ne ne, upd_same]
    obtain ⟨W3, hl⟩ := W2.put (m := .ins C []) es (.ins hc upd_same hox .nil) k1 k2 k3 k4
    have m3 : Mono w H (w.put y) (upd (upd H dx (.own y)) y (.ins cl dx [])) := m1.trans (m2.trans .put)
    refine ⟨w.put y, .loc S.length :: ds, some (S ++ [.ins C []]), W3.snd, W3.sto, .cons (.loc hl) (t.mono m3), ?_⟩
    revert h
    cases mo (.loc S.length :: ds) (some (S ++ [.ins C []])) with
    | bad => exact fun h => h.elim
    | ex c fs => exact fun h cls dx w' H' x sn xv => h cls dx w' H' (W3.ext.trans x) sn xv
    | ok d s' =>
      cases d with
      | p z =>
        cases z with
        | non =>
          intro h v w' H' x sn so hv
          cases hv with
          | p tv =>
            cases tv
            refine ⟨rfl, h (.ref y) w' H' (m3.trans (x.mono W3.snd)) (W3.step x sn so) (.loc (x.pre _ _ hl))⟩
        | _ => exact fun h => h.elim
      | _ => exact fun h => h.elim
theorem de_make (F : HasMk X.prog X.w X.K X.mg X.base lv C ps mo) (hr : Room lw X.A) (hlv : lv + 1 ≤ lw) (hx : Passes (L2.CX X.prog X.w) X G.E) (hg : Gl X C) (ha : DA X G (e :: es) fa)
    (hdb : (C == ("__debug__" : Str)) = false := by decide) (he : starEach (e :: es) X.env = (false, eval e X.env) :: starEach es X.env := by rfl) (hpl : (backTo pos (starEach es X.env)).any (·.1) = false := by rfl) :
    DE X G (.Call (.Name C p) (e :: es) [] pos) (makeE C mo fa) := by
  obtain ⟨c, f1, fd, hc, M, _, Fk, hb⟩ := F.here
  exact PEi (pe_make M Fk (hr.mono hlv) hg hc hb .nil hx ha hdb he hpl) fun σ H Q ⟨w, s, W, h⟩ => ⟨w, s, W, Post.of h fun ds s1 vs w1 H1 W1 r1 h1 y dx hy hd ne => by
    rw [List.append_nil]
    exact runI_at hc W1 r1 hy hd ne h1⟩
theorem de_make0 (F : HasMk X.prog X.w X.K X.mg X.base lv C ps mo) (hr : Room lw X.A) (hlv : lv + 1 ≤ lw) (hx : Passes (L2.CX X.prog X.w) X G.E) (hg : Gl X C) (hdb : (C == ("__debug__" : Str)) = false := by decide) :
    DE X G (.Call (.Name C p) [] [] pos) (makeE C mo nilA) := by
  obtain ⟨c, f1, fd, hc, M, _, Fk, hb⟩ := F.here
  exact PEi (pe_make0 M Fk (hr.mono hlv) hg hc hb .nil hx hdb) fun σ H Q ⟨w, s, W, h⟩ => by
    show ∀ x dx, H x = none → H dx = none → dx ≠ x → _
    intro y dx hy hd ne
    show spD X.K X.mg mo (.ref y :: ([] ++ [])) _ _ _
    exact runI_at hc W .nil hy hd ne h
/-- where a method stands -/
structure HereM (K : PySem.W.Frag) (mg : Str → Option Value) (C m qual : Str) (st : Stmt) (ps : List Str) : Prop where
  ex : ∃ c fa fd, mg C = some (.ref c) ∧ Cls K c ∧ Meth K c m fa ∧ Fun K m qual st fa fd ∧ Binds K fd ps []
theorem HereM.has {qual : Str} {st : Stmt} (h : HereM K mg C m qual st ps) (ok : ∀ fa fd, Fun K m qual st fa fd → FnOk P wd K mg base (L2.CX P wd) lv fa fd ps (spD K mg mo)) : HasMD P wd K mg base lv C m ps mo := by
  obtain ⟨c, fa, fd, h1, h2, h3, F, h4⟩ := h.ex
  exact ⟨c, fa, fd, h1, h2, h3, ok fa fd F, h4⟩
/-- where an __init__ stands -/
structure HereI (K : PySem.W.Frag) (mg : Str → Option Value) (C qual : Str) (st : Stmt) (ps : List Str) : Prop where
  ex : ∃ c fa fd, mg C = some (.ref c) ∧ Mk K c fa ∧ PySem.W.keepIn K (.ref c) = true ∧ Fun K "__init__" qual st fa fd ∧ Binds K fd ps []
theorem HereI.has {qual : Str} {st : Stmt} (h : HereI K mg C qual st ps) (ok : ∀ fa fd, Fun K "__init__" qual st fa fd → FnOk P wd K mg base (L2.CX P wd) lv fa fd ps (spD K mg mo)) : HasMk P wd K mg base lv C ps mo := by
  obtain ⟨c, fa, fd, h1, h2, h3, F, h4⟩ := h.ex
  exact ⟨c, fa, fd, h1, h2, h3, ok fa fd F, h4⟩
end
end Dz
/-! lists and dicts of the store, by any expression: stores, deletions, insertions -/
namespace Dz
open PySem PySem.Spec PyProof.Rows L2
/-- d[k] = v -/
def setS (d k v : D) (s : Sta) : Option Sta := match d, k with
  | .loc n, .p kx => match s.st with
    | some S => match S[n]? with
      | some (.lst ds) => match kx with
        | .int i => (ixN ds.length i).map fun j => ⟨s.sl, some (S.set n (.lst (ds.set j v)))⟩
        | _ => none
      | some (.dic ds) => (keyP kx).bind fun kk => if ds.length < sizeLine then some ⟨s.sl, some (S.set n (.dic (putD ds kk v)))⟩ else none
      | some (.dct ds) => (keysP kx).bind fun kk => if ds.length < sizeLine then some ⟨s.sl, some (S.set n (.dct (putD ds kk v)))⟩ else none
      | _ => none
    | none => none
  | _, _ => none
def subG (go gi : Ev) : Tg := fun v s => match go s with
  | .ok d s1 => match gi s1 with
    | .ok k s2 => setS d k v s2
    | _ => none
  | _ => none
/-- del d[k] -/
def delAt (d k : D) (s : Sta) : Option Sta := match d, k with
  | .loc n, .p kx => match s.st with
    | some S => match S[n]? with
      | some (.lst ds) => match kx with
        | .int i => if ds.length ≤ sizeLine then (ixN ds.length i).map fun j => ⟨s.sl, some (S.set n (.lst (ds.eraseIdx j)))⟩ else none
        | _ => none
      | some (.dic ds) => (keyP kx).bind fun kk => if (getK ds kk).isSome = true then some ⟨s.sl, some (S.set n (.dic (ds.filter fun kv => decide (kv.1 ≠ kk))))⟩ else none
      | _ => none
    | none => none
  | _, _ => none
def delS (go gi : Ev) : Ex := bndS go fun d => bndS gi fun k s => match delAt d k s with
  | some s' => .nx s'
  | none => .bad
/-- d.insert(i, v) -/
def insAt (d i v : D) (s : Sta) : Option Sta := match d, i with
  | .loc n, .p (.int i) => match s.st with
    | some S => match S[n]? with
      | some (.lst ds) => if ds.length < sizeLine ∧ 0 ≤ i ∧ i < 2 ^ 63 then some ⟨s.sl, some (S.set n (.lst (ds.take i.toNat ++ [v] ++ ds.drop i.toNat)))⟩ else none
      | _ => none
    | none => none
  | _, _ => none
def insS (go gi gv : Ev) : Ex := bndS go fun d s => if isLst (.d d) s = true ∧ (seqPk (.d d) s).isSome = true then bndS gi (fun i => bndS gv fun v s => match insAt d i v s with
  | some s' => .nx s'
  | none => .bad) s else .bad
/-- d.pop(k), a dict -/
def popK (d k : D) (s : Sta) : Option (D × Sta) := match d, k with
  | .loc n, .p kx => match s.st with
    | some S => match S[n]? with
      | some (.dic ds) => (keyP kx).bind fun kk => (getK ds kk).map fun x => (x, ⟨s.sl, some (S.set n (.dic (ds.filter fun kv => decide (kv.1 ≠ kk))))⟩)
      | _ => none
    | none => none
  | _, _ => none
def isDicS (d : D) (s : Sta) : Bool := match d with
  | .loc n => match s.st with
    | some S => match S[n]? with
      | some (.dic _) => true
      | some (.dct _) => true
      | _ => false
    | none => false
  | _ => false
def popE (go gk : Ev) : Ev := bnd go fun d s => if isDicS d s = true then (bnd gk fun k s => match popK d k s with
  | some (x, s') => .ok x s'
  | none => .bad) s else .bad
section
variable {X : Cx} {G : Env} {σ σ' : L2.St} {w w1 w' : Wo} {H H1 H' : Hp} {s s1 s' : Sta} {K : PySem.W.Frag} {mg : Str → Option Value} {B : Ba}
variable {a b c e o i value : Expr} {es : List Expr} {f g h go gi gv gk : Ev} {pos pos' p apos cpos tpos : Pos}
theorem set_any (hu : X.A.units + 1 < cLine) : PSet X (fun o i v H Q => rSetL o i v H Q ∨ rSetD o i v H Q) := fun pins s σ H o i v ov iv u Q I r1 r2 r3 h => by
  rcases h with h | h
  · exact set_list pins s σ H o i v ov iv u Q I r1 r2 r3 h
  · exact set_dict hu pins s σ H o i v ov iv u Q I r1 r2 r3 h
theorem setS_at {d k v : D} {s2 : Sta} {vq vk vv : V} {R : Hp → Prop} (W : Wd X.K X.mg G.B w σ s H) (hq : Vd X.K H w d vq) (hk : Vd X.K H w k vk) (hv : Vd X.K H w v vv) (e : setS d k v s = some s2)
    (h : ∀ H', Mono w H w H' → Wd X.K X.mg G.B w σ s2 H' → R H') : rSetL vq vk vv H R ∨ rSetD vq vk vv H R := by
  cases d with
  | loc n =>
    cases k with
    | p kx =>
      cases hq with
      | @loc _ a hn =>
        cases hk with
        | p tk =>
          unfold setS at e
          cases es : s.st with
          | none => simp only [es] at e; cases e
          | some S =>
            simp only [es] at e
            have so := W.sto
            rw [es] at so
            have n2 : ¬ w.I a := W.snd.ri a (List.mem_of_getElem? hn)
            split at e
            · rename_i ds em
              split at e
              · rename_i i
                obtain ⟨j, ej, rfl⟩ := Option.map_eq_some_iff.mp e
                cases tk
                have mk := so.2 n a _ hn em
                have hno := mk.noOwn
                cases mk with
                | @lst _ vs h1 t =>
                  obtain ⟨W', mo⟩ := W.wrS (u := .lst (vs.set j vv)) (m' := .lst (ds.set j v)) es hn em (.lst upd_same (VdL.set (hv.mono (.wr n2)) j (t.mono (.wr n2)))) hno
                  exact .inl ⟨a, vs, i, j, rfl, rfl, h1, by rw [← t.len]; exact ej, h _ mo W'⟩
              · cases e
            · rename_i ds em
              obtain ⟨kk, ek, e2⟩ := Option.bind_eq_some_iff.mp e
              split at e2
              · rename_i hz
                cases e2
                cases key_v tk ek
                have mk := so.2 n a _ hn em
                have hno := mk.noOwn
                cases mk with
                | @dic _ vs h1 t =>
                  obtain ⟨W', mo⟩ := W.wrS (u := .dK (putK vs kk vv)) (m' := .dic (putD ds kk v)) es hn em (.dic upd_same ((t.mono (.wr n2)).put (hv.mono (.wr n2)))) hno
                  exact .inr ⟨a, _, rfl, .k h1 (by rw [← t.len]; exact hz), h _ mo W'⟩
              · cases e2
            · rename_i ds em
              obtain ⟨kk, ek, e2⟩ := Option.bind_eq_some_iff.mp e
              split at e2
              · rename_i hz
                cases e2
                obtain ⟨c, rfl, hc⟩ := keysP_at tk ek
                have mk := so.2 n a _ hn em
                have hno := mk.noOwn
                cases mk with
                | @dct _ vs h1 t =>
                  obtain ⟨W', mo⟩ := W.wrS (u := .dT (putK vs kk vv)) (m' := .dct (putD ds kk v)) es hn em (.dct upd_same ((t.mono (.wr n2)).put (hv.mono (.wr n2)))) hno
                  exact .inr ⟨a, _, rfl, .t h1 hc (by rw [← t.len]; exact hz), h _ mo W'⟩
              · cases e2
            · cases e
    | _ => cases e
  | _ => cases e
theorem dg_sub (hu : X.A.units + 1 < cLine) (ho : DE X G o go) (hi : DE X G i gi)
    (ha : ∀ v, assign (.Subscript o i pos) X.env v = (do
      let ov ← holding [v] (eval o X.env)
      let iv ← holding [v, ov] (eval i X.env)
      standAt pos
      holding [v, ov, iv] (setItem ov iv v)
      release [v, ov, iv] []) := by intro _; rfl) : DG X G (.Subscript o i pos) (subG go gi) :=
  PGi (pg_sub ho hi (set_any hu) ha) fun v σ H Q ⟨w, s, d, W, hv, h⟩ => by
    unfold subG at h
    refine ⟨w, s, W, ?_⟩
    cases e : go s with
    | ok d1 s1 =>
      simp only [e] at h
      intro ov w1 H1 m1 W1 r1
      refine ⟨w1, s1, W1, ?_⟩
      cases e2 : gi s1 with
      | ok k s2 =>
        simp only [e2] at h
        intro iv w2 H2 m2 W2 r2
        cases e3 : setS d1 k d s2 with
        | none => rw [e3] at h; exact (show False from h).elim
        | some s3 =>
          rw [e3] at h
          exact setS_at W2 (Vd.mono m2 r1) r2 (hv.mono (m1.trans m2)) e3 fun H' mo W' => h σ w2 H' ((m1.trans m2).trans mo) W'
      | ex c fs => simp only [e2] at h; exact (show False from h).elim
      | bad => simp only [e2] at h; exact (show False from h).elim
    | ex c fs => simp only [e] at h; exact (show False from h).elim
    | bad => simp only [e] at h; exact (show False from h).elim
theorem PS.or {st : Stmt} {t1 t2 : TS} (h1 : PS X st t1) (h2 : PS X st t2) : PS X st (fun D σ H => t1 D σ H ∨ t2 D σ H) := ⟨fun pins s σ H D I h => by
  rcases h with h | h
  · exact h1.run pins s σ H D I h
  · exact h2.run pins s σ H D I h⟩
end
end Dz
/-! deletions, insertions, pop and get of dicts -/
namespace Dz
open PySem PySem.Spec PyProof.Rows L2
/-- d.get(k, x) -/
def getO (d k : D) (s : Sta) : Option (Option D) := match k with
  | .p kx => match dicOf d s with
    | some kvs => (keyP kx).map fun kk => getK kvs kk
    | none => none
  | _ => none
def getE (go gk gx : Ev) : Ev := bnd go fun d s => if (dicOf d s).isSome = true then (bnd gk fun k => bnd gx fun x s => match getO d k s with
  | some o => .ok (o.getD x) s
  | none => .bad) s else .bad
section
variable {X : Cx} {G : Env} {σ σ' : L2.St} {w w1 w' : Wo} {H H1 H' : Hp} {s s1 s' : Sta} {K : PySem.W.Frag} {mg : Str → Option Value} {B : Ba}
variable {a b c e f o i value : Expr} {es : List Expr} {g h go gi gv gk gx : Ev} {pos pos' p apos cpos tpos : Pos}
theorem VdL.eraseIdx : ∀ {xs : List D} {vs : List V} (j : Nat), VdL K H w xs vs → VdL K H w (xs.eraseIdx j) (vs.eraseIdx j)
  | _, _, _, .nil => .nil
  | _, _, 0, .cons _ t => t
  | _, _, j + 1, .cons a t => .cons a (VdL.eraseIdx j t)
theorem VdL.drop : ∀ {xs : List D} {vs : List V} (n : Nat), VdL K H w xs vs → VdL K H w (xs.drop n) (vs.drop n)
  | _, _, 0, t => t
  | _, _, _ + 1, .nil => .nil
  | _, _, n + 1, .cons _ t => VdL.drop n t
theorem VdL.app' {xs ys : List D} {vs us : List V} (t : VdL K H w xs vs) (u : VdL K H w ys us) : VdL K H w (xs ++ ys) (vs ++ us) := by
  induction t with
  | nil => exact u
  | cons a _ ih => exact .cons a ih
theorem VdK.drop {κ : Type} [DecidableEq κ] {kvs : List (κ × D)} {vs : List (κ × V)} (k : κ) (t : VdK K H w kvs vs) : VdK K H w (kvs.filter fun kv => decide (kv.1 ≠ k)) (dropK vs k) := by
  unfold dropK
  induction t with
  | nil => exact .nil
  | @cons k' x xs v vs h _ ih =>
    by_cases e : k' = k
    · rw [List.filter_cons_of_neg (by simpa using e), List.filter_cons_of_neg (by simpa using e)]; exact ih
    · rw [List.filter_cons_of_pos (by simpa using e), List.filter_cons_of_pos (by simpa using e)]; exact .cons h ih
/-- an object of the store at its place -/
theorem st_at {n : Nat} {v : V} {S : List MO} {m : MO} (W : Wd K mg B w σ s H) (hv : Vd K H w (.loc n) v) (es : s.st = some S) (en : S[n]? = some m) : ∃ a, v = .ref a ∧ w.ρ[n]? = some a ∧ MOk K mg H w a m := by
  cases hv with
  | @loc n a hn =>
    have so := W.sto
    rw [es] at so
    exact ⟨a, rfl, hn, so.2 n a _ hn en⟩
theorem del_at {d k : D} {s2 : Sta} {vq vk : V} {R : Hp → Prop} (W : Wd X.K X.mg G.B w σ s H) (hq : Vd X.K H w d vq) (hk : Vd X.K H w k vk) (e : delAt d k s = some s2)
    (h : ∀ H', Mono w H w H' → Wd X.K X.mg G.B w σ s2 H' → R H') : (∃ l xs i j, vq = .ref l ∧ vk = .int i ∧ H l = some (.lst xs) ∧ -(2 ^ 63) ≤ i ∧ i < 2 ^ 63 ∧ seqIndex? i xs.length = some j ∧ R (upd H l (.lst (xs.eraseIdx j)))) ∨
      ∃ a kvs kk, vq = .ref a ∧ H a = some (.dK kvs) ∧ vk = kV kk ∧ (valV kvs kk).isSome = true ∧ R (upd H a (.dK (dropK kvs kk))) := by
  cases d with
  | loc n =>
    cases k with
    | p kx =>
      cases hk with
      | p tk =>
        unfold delAt at e
        cases es : s.st with
        | none => simp only [es] at e; cases e
        | some S =>
          simp only [es] at e
          split at e
          · rename_i ds em
            split at e
            · rename_i i
              split at e
              · rename_i hz
                obtain ⟨j, ej, rfl⟩ := Option.map_eq_some_iff.mp e
                cases tk
                obtain ⟨a, rfl, hn, mk⟩ := st_at W hq es em
                have hno := mk.noOwn
                have n2 : ¬ w.I a := W.snd.ri a (List.mem_of_getElem? hn)
                cases mk with
                | @lst _ vs h1 t =>
                  obtain ⟨W', mo⟩ := W.wrS (u := .lst (vs.eraseIdx j)) (m' := .lst (ds.eraseIdx j)) es hn em (.lst upd_same (VdL.eraseIdx j (t.mono (.wr n2)))) hno
                  have ll := t.len
                  rw [ll] at ej hz
                  obtain ⟨h2, h3, h4, h5⟩ := ixN_seq ej
                  have hz : vs.length ≤ 16777216 := hz
                  exact .inl ⟨a, vs, i, j, rfl, rfl, h1, by omega, by omega, h2, h _ mo W'⟩
              · cases e
            · cases e
          · rename_i ds em
            obtain ⟨kk, ek, e2⟩ := Option.bind_eq_some_iff.mp e
            split at e2
            · rename_i hg
              cases e2
              cases key_v tk ek
              obtain ⟨a, rfl, hn, mk⟩ := st_at W hq es em
              have hno := mk.noOwn
              have n2 : ¬ w.I a := W.snd.ri a (List.mem_of_getElem? hn)
              cases mk with
              | @dic _ vs h1 t =>
                obtain ⟨W', mo⟩ := W.wrS (u := .dK (dropK vs kk)) (m' := .dic (ds.filter fun kv => decide (kv.1 ≠ kk))) es hn em (.dic upd_same (VdK.drop kk (t.mono (.wr n2)))) hno
                exact .inr ⟨a, vs, kk, rfl, h1, rfl, by rw [getK_some t]; exact hg, h _ mo W'⟩
            · cases e2
          · cases e
    | _ => cases e
  | _ => cases e
/-- del o[i], a list or a dict -/
def tDelA (to ti : TE) : TS := fun E σ H => to σ H fun x H1 => ti σ H1 fun y H2 => (∃ (l : Addr) (xs : List V) (i : Int) (j : Nat), x = .ref l ∧ y = .int i ∧ H2 l = some (.lst xs) ∧ -(2 ^ 63) ≤ i ∧ i < 2 ^ 63 ∧ seqIndex? i xs.length = some j ∧ E.nx σ (upd H2 l (.lst (xs.eraseIdx j)))) ∨
  ∃ (a : Addr) (kvs : List (Key × V)) (kk : Key), x = .ref a ∧ H2 a = some (.dK kvs) ∧ y = kV kk ∧ (valV kvs kk).isSome = true ∧ E.nx σ (upd H2 a (.dK (dropK kvs kk)))
theorem ps_delA {to ti : TE} (ho : PE X o to) (hi : PE X i ti) : PS X (.Delete [.Subscript o i tpos] pos) (tDelA to ti) := by
  refine ⟨fun pins s σ H E I h => ?_⟩
  refine wpAny_Delete (wpAny_deleteEach_cons (wpAny_delete_Subscript (thn (ho.run pins s σ H _ I h) fun u s1 ⟨x, H1, I1, rx, q1⟩ => thn (hi.run pins s1 σ H1 _ I1 q1) fun iv s2 ⟨y, H2, I2, ry, q2⟩ => ?_)))
  rcases q2 with ⟨l, xs, j, k, ex, ey, hH, h1, h2, hk, q2⟩ | ⟨a, kvs, k, ex, e, ey, l, q2⟩
  · subst ex
    subst ey
    cases (show u = Value.ref l from rx)
    obtain ⟨t, rfl⟩ := (show ∃ t, iv = Value.int j t from ry)
    exact del_list I2 hH h1 h2 hk fun s3 I3 => wpAny_deleteEach_nil ⟨σ, _, I3, q2⟩
  · subst ex ey
    obtain rfl : u = Value.ref a := rx
    exact d_delItem I2 e ry l fun s3 I3 => wpAny_deleteEach_nil ⟨σ, _, I3, q2⟩
theorem ds_del (ho : DE X G o go) (hi : DE X G i gi) : DS X G (.Delete [.Subscript o i tpos] pos) (delS go gi) :=
  PSi (ps_delA ho hi) fun E σ H ⟨w, s, W, h⟩ => ⟨w, s, W, PostS.bind h fun d s1 vq w1 H1 m1 W1 r1 h1 => ⟨w1, s1, W1, PostS.bind h1 fun k s2 vk w2 H2 m2 W2 r2 h2 => by
    split at h2
    · rename_i s3 e3
      exact del_at (R := E.nx σ) W2 (Vd.mono m2 r1) r2 e3 fun H' mo W' => h2 σ w2 H' mo W'
    · exact h2.elim⟩⟩
/-! ### insert -/
theorem ins_list {d k v : D} {s2 : Sta} {vq vk vv : V} {Q : VK} (W : Wd X.K X.mg G.B w σ s H) (hq : Vd X.K H w d vq) (hk : Vd X.K H w k vk) (hv : Vd X.K H w v vv) (e : insAt d k v s = some s2)
    (h : ∀ H', Mono w H w H' → Wd X.K X.mg G.B w σ s2 H' → Q .non H') : ∃ (l : Addr) (xs : List V) (i : Int) (y : V), vq = .ref l ∧ [vk, vv] = [.int i, y] ∧ H l = some (.lst xs) ∧ xs.length < sizeLine ∧ 0 ≤ i ∧ i < 2 ^ 63 ∧ Q .non (upd H l (.lst (xs.take i.toNat ++ [y] ++ xs.drop i.toNat))) := by
  cases d with
  | loc n =>
    cases k with
    | p kx =>
      cases hk with
      | p tk =>
        cases tk with
        | int i =>
          unfold insAt at e
          cases es : s.st with
          | none => simp only [es] at e; cases e
          | some S =>
            simp only [es] at e
            split at e
            · rename_i ds em
              split at e
              · rename_i hz
                cases e
                obtain ⟨a, rfl, hn, mk⟩ := st_at W hq es em
                have hno := mk.noOwn
                have n2 : ¬ w.I a := W.snd.ri a (List.mem_of_getElem? hn)
                cases mk with
                | @lst _ vs h1 t =>
                  have t2 := t.mono (Mono.wr (u := .lst (vs.take i.toNat ++ [vv] ++ vs.drop i.toNat)) n2)
                  have v2 := hv.mono (Mono.wr (u := .lst (vs.take i.toNat ++ [vv] ++ vs.drop i.toNat)) n2)
                  obtain ⟨W', mo⟩ := W.wrS (u := .lst (vs.take i.toNat ++ [vv] ++ vs.drop i.toNat)) (m' := .lst (ds.take i.toNat ++ [v] ++ ds.drop i.toNat)) es hn em (.lst upd_same (((VdL.take _ t2).app' (.cons v2 .nil)).app' (VdL.drop _ t2))) hno
                  exact ⟨a, vs, i, vv, rfl, rfl, h1, by rw [← t.len]; exact hz.1, hz.2.1, hz.2.2, h _ mo W'⟩
              · cases e
            · cases e
        | _ => cases e
    | _ => cases e
  | _ => cases e
theorem ds_ins (ho : DE X G o go) (hi : DE X G i gi) (hv : DE X G value gv)
    (hbase : attributeBase o "insert" X.env (eval o X.env) = eval o X.env := by rfl)
    (hfew : ((backTo cpos (starEach [i, value] X.env)).all (fun x => !x.1) && (backToKw cpos (keywordEach [] X.env)).all (fun x => x.1.isSome) && decide ([i, value].length + ([] : List Keyword).length + (if ([] : List Keyword).isEmpty then 0 else 1) < 30)) = true := by rfl)
    (hline : (apos.endLine == cpos.line) = true := by rfl) (h0 : starEach [value] X.env = (false, eval value X.env) :: starEach [] X.env := by rfl) (h1 : starEach [i, value] X.env = (false, eval i X.env) :: starEach [value] X.env := by rfl) (hplain : (backTo cpos (starEach [value] X.env)).any (·.1) = false := by rfl)
    (hs : swapsWith (.Call (.Attribute o "insert" apos) [i, value] [] cpos) none pos.line X.env = pure false := by rfl) : DS X G (.Expr (.Call (.Attribute o "insert" apos) [i, value] [] cpos) pos) (insS go gi gv) :=
  PSi (ps_expr (pe_bm PySem.F.plainAttrs_list PySem.F.slot_list_insert PySem.F.type_list_insert mt_insert ho (pa_cons hi (pa_cons hv pa_nil h0) h1) hbase hfew hline h1 hplain) hs) fun E σ H ⟨w, s, W, h⟩ => by
    refine ⟨w, s, W, PostS.bind h fun d s1 vq w1 H1 m1 W1 r1 h1 => ?_⟩
    split at h1
    · rename_i hl
      obtain ⟨ds, eds⟩ := Option.isSome_iff_exists.mp hl.2
      refine ⟨tyL_at W1 (k := .d d) r1 hl.1 ds eds, w1, s1, W1, PostS.bind h1 fun k s2 vk w2 H2 m2 W2 r2 h2 => ⟨w2, s2, W2, PostS.bind h2 fun v s3 vv w3 H3 m3 W3 r3 h3 => ?_⟩⟩
      split at h3
      · rename_i s4 e4
        exact ins_list (Q := fun _ H' => E.nx σ H') W3 ((Vd.mono m2 r1).mono m3) (Vd.mono m3 r2) r3 e4 fun H' mo W' => h3 σ w3 H' mo W'
      · exact h3.elim
    · exact h1.elim
/-! ### pop and get of dicts -/
theorem isDic_at {d : D} {v : V} (W : Wd K mg B w σ s H) (hv : Vd K H w d v) (h : isDicS d s = true) : ∃ a, v = .ref a ∧ IsD H a := by
  cases d with
  | loc n =>
    unfold isDicS at h
    cases es : s.st with
    | none => simp only [es] at h; cases h
    | some S =>
      simp only [es] at h
      split at h
      · rename_i kvs em
        obtain ⟨a, rfl, hn, mk⟩ := st_at W hv es em
        cases mk with
        | dic h1 _ => exact ⟨a, rfl, .inl ⟨_, .inl h1⟩⟩
      · rename_i kvs em
        obtain ⟨a, rfl, hn, mk⟩ := st_at W hv es em
        cases mk with
        | dct h1 _ => exact ⟨a, rfl, .inr ⟨_, .inl h1⟩⟩
      · cases h
  | _ => cases h
theorem pop_at {d k x : D} {s2 : Sta} {vq vk : V} {Q : VK} (W : Wd X.K X.mg G.B w σ s H) (hq : Vd X.K H w d vq) (hk : Vd X.K H w k vk) (e : popK d k s = some (x, s2)) (h : Post X G (RD X) σ w H (.ok x s2) Q) :
    ∃ a kvs kk v, vq = .ref a ∧ H a = some (.dK kvs) ∧ vk = kV kk ∧ valV kvs kk = some v ∧ Q v (upd H a (.dK (dropK kvs kk))) := by
  cases d with
  | loc n =>
    cases k with
    | p kx =>
      cases hk with
      | p tk =>
        unfold popK at e
        cases es : s.st with
        | none => simp only [es] at e; cases e
        | some S =>
          simp only [es] at e
          split at e
          · rename_i ds em
            obtain ⟨kk, ek, e2⟩ := Option.bind_eq_some_iff.mp e
            obtain ⟨y, ey, e3⟩ := Option.map_eq_some_iff.mp e2
            cases e3
            cases key_v tk ek
            obtain ⟨a, rfl, hn, mk⟩ := st_at W hq es em
            have hno := mk.noOwn
            have n2 : ¬ w.I a := W.snd.ri a (List.mem_of_getElem? hn)
            cases mk with
            | @dic _ vs h1 t =>
              obtain ⟨W', mo⟩ := W.wrS (u := .dK (dropK vs kk)) (m' := .dic (ds.filter fun kv => decide (kv.1 ≠ kk))) es hn em (.dic upd_same (VdK.drop kk (t.mono (.wr n2)))) hno
              rcases getK_v t kk with ⟨z, _⟩ | ⟨d', v, g1, g2, g3⟩
              · rw [z] at ey; cases ey
              · rw [ey] at g1
                cases g1
                exact ⟨a, vs, kk, v, rfl, h1, rfl, g2, h v w _ mo W' (g3.mono mo)⟩
          · cases e
    | _ => cases e
  | _ => cases e
theorem de_popK (ho : DE X G o go) (hk : DE X G e gk) (m : M1 X o "pop" apos e cpos := by exact ⟨rfl, rfl, rfl, rfl⟩) : DE X G (.Call (.Attribute o "pop" apos) [e] [] cpos) (popE go gk) :=
  PEi (pe_dpop1 ho hk m) fun σ H Q ⟨w, s, W, h⟩ => ⟨w, s, W, h.bind fun d s1 vq w1 H1 m1 W1 r1 h1 => by
    split at h1
    · rename_i hd
      obtain ⟨a, rfl, hI⟩ := isDic_at W1 r1 hd
      refine ⟨a, rfl, hI, w1, s1, W1, Post.bind h1 fun k s2 vk w2 H2 m2 W2 r2 h2 => ?_⟩
      split at h2
      · rename_i x s3 e3
        obtain ⟨a', kvs, kk, v, ea, h3, h4, h5, h6⟩ := pop_at W2 (Vd.mono m2 r1) r2 e3 h2
        cases ea
        exact ⟨kvs, kk, v, h3, h4, h5, h6⟩
      · exact h2.elim
    · exact h1.elim⟩
end
end Dz
/-! d.get(k, x); sorted of dicts with int keys, of lists of pairs of ints; list(d) -/
namespace Dz
open PySem PySem.Spec PyProof.Rows L2
/-! ### one sorted list, whatever the order -/
section
variable {α : Type} (lt : α → α → Bool)
def insB (x : α) : List α → List α
  | [] => [x]
  | y :: ys => if lt y x = true then y :: insB x ys else x :: y :: ys
def sortB : List α → List α
  | [] => []
  | x :: xs => insB lt x (sortB xs)
theorem insB_perm (x : α) : ∀ ys, (insB lt x ys).Perm (x :: ys)
  | [] => .refl _
  | y :: ys => by
    unfold insB
    split
    · exact ((insB_perm x ys).cons y).trans (.swap x y ys)
    · exact .refl _
theorem sortB_perm : ∀ xs, (sortB lt xs).Perm xs
  | [] => .refl _
  | x :: xs => (insB_perm lt x _).trans ((sortB_perm xs).cons x)
variable {lt}
theorem insB_sorted (O : SrtO.Swo lt) (x : α) : ∀ ys, SrtO.Srtd lt ys → SrtO.Srtd lt (insB lt x ys)
  | [], _ => List.pairwise_singleton _ _
  | y :: ys, h => by
    unfold insB
    obtain ⟨h1, h2⟩ := List.pairwise_cons.mp h
    split
    · rename_i e
      refine List.pairwise_cons.mpr ⟨fun z hz => ?_, insB_sorted O x ys h2⟩
      rcases List.mem_cons.mp ((insB_perm lt x ys).mem_iff.mp hz) with rfl | hz
      · exact O.asym _ _ e
      · exact h1 z hz
    · rename_i e
      have e : lt y x = false := by simpa using e
      refine List.pairwise_cons.mpr ⟨fun z hz => ?_, h⟩
      rcases List.mem_cons.mp hz with rfl | hz
      · exact e
      · exact O.tr _ _ _ e (h1 z hz)
theorem sortB_sorted (O : SrtO.Swo lt) : ∀ xs, SrtO.Srtd lt (sortB lt xs)
  | [] => .nil
  | x :: xs => insB_sorted O x _ (sortB_sorted O xs)
theorem sortB_uniq (T : ∀ x y, lt x y = false → lt y x = false → x = y) : ∀ {xs ys : List α}, SrtO.Srtd lt xs → SrtO.Srtd lt ys → xs.Perm ys → xs = ys
  | [], ys, _, _, p => (List.Perm.eq_nil p.symm).symm
  | x :: xs, [], _, _, p => absurd p.length_eq (by simp)
  | x :: xs, y :: ys, hx, hy, p => by
    obtain ⟨h1, h2⟩ := List.pairwise_cons.mp hx
    obtain ⟨k1, k2⟩ := List.pairwise_cons.mp hy
    have e : x = y := by
      rcases List.mem_cons.mp (p.mem_iff.mp (List.mem_cons_self ..)) with e | hm
      · exact e
      · rcases List.mem_cons.mp (p.mem_iff.mpr (List.mem_cons_self ..)) with e | hm2
        · exact e.symm
        · exact T _ _ (k1 x hm) (h1 y hm2)
    subst e
    rw [sortB_uniq T h2 k2 p.cons_inv]
end
def ltI (x y : Int) : Bool := decide (x < y)
def sortI : List Int → List Int := sortB ltI
def sortII : List (Int × Int) → List (Int × Int) := sortB SrtO.lexB
theorem ltI_tot (x y : Int) (h : ltI x y = false) (z : ltI y x = false) : x = y := by
  have h := of_decide_eq_false (p := x < y) h
  have z := of_decide_eq_false (p := y < x) z
  omega
theorem ltI_swo : SrtO.Swo ltI := ⟨fun x y h => decide_eq_false (p := y < x) (by have := of_decide_eq_true (p := x < y) h; omega), fun x y z h1 h2 => decide_eq_false (p := z < x) (by have := of_decide_eq_false (p := y < x) h1; have := of_decide_eq_false (p := z < y) h2; omega)⟩
theorem lexB_tot (x y : Int × Int) (h : SrtO.lexB x y = false) (z : SrtO.lexB y x = false) : x = y := by
  have h := SrtO.lexB_no.mp h
  have z := SrtO.lexB_no.mp z
  obtain ⟨a, b⟩ := x
  obtain ⟨c, d⟩ := y
  dsimp only at h z
  have e1 : a = c := by omega
  have e2 : b = d := by omega
  rw [e1, e2]
theorem lexB_swo : SrtO.Swo SrtO.lexB := ⟨fun x y h => SrtO.lexB_no.mpr (by have := SrtO.lexB_iff.mp h; omega), fun x y z h1 h2 => SrtO.lexB_no.mpr (by have := SrtO.lexB_no.mp h1; have := SrtO.lexB_no.mp h2; omega)⟩
theorem sortI_of {ns ks : List Int} (p : ns.Perm ks) (h : ns.Pairwise (· ≤ ·)) : ns = sortI ks :=
  sortB_uniq ltI_tot (h.imp fun {x y} e => decide_eq_false (p := y < x) (by omega)) (sortB_sorted ltI_swo ks) (p.trans (sortB_perm ltI ks).symm)
theorem sortII_of {ns ks : List (Int × Int)} (p : ns.Perm ks) (h : SrtO.Srtd SrtO.lexB ns) : ns = sortII ks :=
  sortB_uniq lexB_tot h (sortB_sorted lexB_swo ks) (p.trans (sortB_perm SrtO.lexB ks).symm)
/-! ### sorted(d), int keys, any number of them -/
section
variable {X : Cx}
/-- what is collected of a dict with int keys: its keys -/
theorem keys_ints {es : List (Key × Value)} {ns : List Int} (ek : es.map (·.1) = ns.map Sum.inl) {got : Array Value} (hn : got.size = es.length) (hg : ∀ (j : Nat) (v : Value), got[j]? = some v → ∃ k x, es[j]? = some (k, x) ∧ keyIs k v = true) : IntsAre got.toList ns := by
  have len : es.length = ns.length := by simpa using congrArg List.length ek
  refine ints_each (by rw [Array.length_toList, hn, len]) fun j v ev => ?_
  obtain ⟨k, x, at1, is1⟩ := hg j v (by rw [← Array.getElem?_toList]; exact ev)
  have at2 := congrArg (fun l => l[j]?) ek
  simp only [List.getElem?_map, at1, Option.map_some] at at2
  cases at3 : ns[j]? with
  | none => simp [at3] at at2
  | some n =>
    simp only [at3, Option.map_some, Option.some.injEq] at at2
    rcases keyIs_shape is1 with ⟨m, t, q1, q2⟩ | ⟨m, t, q1, q2⟩
    · rw [q1] at at2
      cases at2
      exact ⟨_, t, rfl, q2⟩
    · rw [q1] at at2
      cases at2
theorem call_sortedDA (calm : X.calm = true) : CallR X (.builtin "sorted") (fun xs H Q => ∃ (a : Addr) (kvs : List (Key × V)) (ks : List Int), xs = [.ref a] ∧ Rd H a (.dK kvs) ∧ kvs.map (·.1) = ks.map Sum.inl ∧
    ∀ (p : Addr), H p = none → Q (.ref p) (upd H p (.lst ((sortI ks).map V.int)))) := fun pins s σ H vs us Q inv rel want => by
  obtain ⟨d, ents, ns, ev, hd, en, fin⟩ := want
  subst ev
  rw [Vals.ref1 rel]
  obtain ⟨small, notSys, es, kv, dof⟩ := dk_rd inv.hok hd
  obtain ⟨ep, dat⟩ := dof.dictAt
  have le : es.length ≤ sizeLine := kv.length ▸ small
  have ek : es.map (·.1) = ns.map Sum.inl := kv.keys ▸ en
  refine Calls.call_function_entry PyProof.Rows.kind_sorted PyProof.Rows.plain_sorted PyProof.Rows.entry_sorted (PyProof.Rows.args_sorted1 (.ref d)) ?_
  unfold Builtin.«sorted»
  refine wpAny_bind (m := checkCount "sorted" 1 1 _) (wpAny_pure (wpAny_bind (PySem.W.kdu_collect (A := X.A.in1) (PySem.W.kdl_dict (knd := mixKind X.prog X.w) (kvs := es) (ep := ep) notSys) (inv.ok.hd calm) dat le fun g tk got kept hgot => ?_)))
  have isI := keys_ints ek hgot.1 hgot.2
  have lg : got.toList.length ≤ sizeLine := by rw [Array.length_toList, hgot.1]; exact le
  refine wpAny_bind (wpAny_newList ?_ lg)
  have atL : (g.push (seqObj "list" got.toList.toArray 0)).get? g.objs.size = some (seqObj "list" got.toList.toArray 0) := Heap.get?_push_size _ rfl
  show wpAny (model X.prog X.w) X.A.in1 _ _ _ { s with heap := g.push (seqObj "list" got.toList.toArray 0), toks := tk }
  refine wpAny_bind (wpAny_holding (wpAny_call_entry PyProof.Rows.slot_list_sort ⟨_, atL, rfl⟩ PyProof.Rows.entry_list_sort (SrtO.list_sort_ord SrtO.swo_int atL lg (fun two => SrtO.ints_sortable isI two) fun out o1 o2 => ⟨_, rfl, ?_⟩) (PyProof.Rows.args_list_sort _)))
  obtain ⟨q1, q2, q3⟩ := SrtO.ints_out isI o1 o2
  have eo := sortI_of q2 q3
  obtain ⟨n', at'⟩ := PyProof.Rows.sortedHeap_at (vs := got.toList) (out := out.toArray) atL
  have vals : Vals ((sortI ns).map V.int) out := vals_of_ints (eo ▸ q1)
  have fit : ((sortI ns).map V.int).length ≤ sizeLine := by
    have := q2.length_eq
    rw [← eo, List.length_map, this, ← List.length_map (f := (Sum.inl : Int → Key)), ← ek, List.length_map]; exact le
  have inv1 : Inv X pins σ H { s with heap := g, toks := tk } := inv.kept kept
  have inv2 := inv1.laid (t' := tk) (a := g.objs.size) (o := .lst ((sortI ns).map V.int)) (h' := sortedHeap (g.push (seqObj "list" got.toList.toArray 0)) g.objs.size got.toList out.toArray) (fun b u e => by
    have lt : (b : Nat) < g.objs.size := Heap.lt_size e
    exact (PyProof.Rows.sortedHeap_old (Nat.ne_of_lt lt) (by rw [size_push']; exact Nat.lt_succ_of_lt lt)).trans (Heap.get?_push_of_some _ e)) (Nat.le_refl _) ⟨fit, out, n', vals, at'⟩
  exact wpAny_pure ⟨_, rfl, .ref g.objs.size, _, inv2, rfl, fin _ (inv1.hok.fresh (Nat.le_refl _))⟩
end
end Dz
namespace Dz
open PySem PySem.Spec PyProof.Rows L2
/-- sorted(d), int keys -/
def keyI : Key → Option Int
  | .inl i => some i
  | .inr _ => none
def sortDF (p : Pk) : Sta → Res Lin := fun s => match dicPk p s with
  | some kvs => match kvs.mapM fun kv => keyI kv.1 with
    | some ks => .ok (.lst ((sortI ks).map .int)) s
    | none => .bad
  | none => .bad
/-- list(d) -/
def listDF (p : Pk) : Sta → Res Lin := fun s => match dicPk p s with
  | some kvs => .ok (.lst (kvs.map fun kv => keyP' kv.1)) s
  | none => .bad
/-- sorted(xs), pairs of ints -/
def pairI : P → Option (Int × Int)
  | .tup [.int a, .int b] => some (a, b)
  | _ => none
def pairP (q : Int × Int) : P := .tup [.int q.1, .int q.2]
def sortPF (p : Pk) : Sta → Res Lin := fun s => match p with
  | .d (.p (.lst xs)) => match xs.mapM pairI with
    | some qs => .ok (.lst ((sortII qs).map pairP)) s
    | none => .bad
  | _ => .bad
section
variable {X : Cx} {G : Env} {σ σ' : L2.St} {w w1 w' : Wo} {H H1 H' : Hp} {s s1 s' : Sta} {K : PySem.W.Frag} {mg : Str → Option Value} {B : Ba}
variable {a b c e f o i value : Expr} {es : List Expr} {g h go gi gv gk gx : Ev} {pos pos' p p2 apos cpos tpos : Pos} {fp : Sta → Res Pk}
theorem de_get2 (hu : X.A.units + 1 < cLine) (ho : DE X G o go) (hk : DE X G e gk) (hx : DE X G f gx) (m : M2 X o "get" apos e f cpos := by exact ⟨rfl, rfl, rfl, rfl⟩) : DE X G (.Call (.Attribute o "get" apos) [e, f] [] cpos) (getE go gk gx) :=
  PEi (pe_dget2 hu ho hk hx m) fun σ H Q ⟨w, s, W, h⟩ => ⟨w, s, W, h.bind fun d s1 vq w1 H1 m1 W1 r1 h1 => by
    split at h1
    · rename_i hd
      obtain ⟨ds, eds⟩ := Option.isSome_iff_exists.mp hd
      obtain ⟨a, vs, rfl, hr, hv⟩ := dic_at W1 r1 eds
      refine ⟨a, rfl, .inl ⟨_, hr⟩, w1, s1, W1, Post.bind h1 fun k s2 vk w2 H2 m2 W2 r2 h2 => ⟨w2, s2, W2, Post.bind h2 fun x s3 vx w3 H3 m3 W3 r3 h3 => ?_⟩⟩
      split at h3
      · rename_i oo eo
        unfold getO at eo
        cases k with
        | p kx =>
          cases r2 with
          | p tk =>
            simp only at eo
            split at eo
            · rename_i kvs ek
              obtain ⟨kk, e1, e2⟩ := Option.map_eq_some_iff.mp eo
              obtain ⟨a', vs', ea, hr', hv'⟩ := dic_at W3 ((Vd.mono m2 r1).mono m3) ek
              cases ea
              have tk3 := tk.mono m3.imm
              cases key_v tk3 e1
              refine ⟨valV vs' kk, .inl ⟨vs', kk, hr', rfl, rfl⟩, ?_⟩
              subst e2
              rcases getK_v hv' kk with ⟨z1, z2⟩ | ⟨d', v, g1, g2, g3⟩
              · rw [z1] at h3
                rw [z2]
                exact h3 vx w3 H3 Mono.refl W3 r3
              · rw [g1] at h3
                rw [g2]
                exact h3 v w3 H3 Mono.refl W3 g3
            · cases eo
        | _ => cases eo
      · exact h3.elim
    · exact h1.elim⟩
theorem keys_I : ∀ {ds : List (Key × D)} {ks : List Int}, ds.mapM (fun kv => keyI kv.1) = some ks → ds.map (·.1) = ks.map Sum.inl
  | [], ks, e => by simp at e; subst e; rfl
  | (k, d) :: ds, ks, e => by
    rw [List.mapM_cons] at e
    simp only [Option.pure_def, Option.bind_eq_bind] at e
    cases e1 : keyI k with
    | none => rw [e1] at e; simp at e
    | some y =>
      rw [e1] at e
      cases e2 : ds.mapM (fun kv => keyI kv.1) with
      | none => rw [e2] at e; simp at e
      | some ys =>
        rw [e2] at e
        simp at e
        subst e
        have hk : k = Sum.inl y := by
          unfold keyI at e1
          split at e1
          · cases e1; rfl
          · cases e1
        rw [List.map_cons, List.map_cons, keys_I e2, hk]
theorem u_sortDF : U1F X G (fun xs H Q => ∃ (a : Addr) (kvs : List (Key × V)) (ks : List Int), xs = [.ref a] ∧ Rd H a (.dK kvs) ∧ kvs.map (·.1) = ks.map Sum.inl ∧
    ∀ (p : Addr), H p = none → Q (.ref p) (upd H p (.lst ((sortI ks).map V.int)))) sortDF := by
  intro σ w s H q v Q W r h
  unfold sortDF at h
  split at h
  · rename_i ds es
    split at h
    · rename_i ks ek
      obtain ⟨a, vs, rfl, hq, tl⟩ := dicPk_at W r es
      exact ⟨a, vs, ks, rfl, hq, (vdk_keys tl).trans (keys_I ek), fun l nl => PostF.new W nl (fun mo => .lst upd_same (ints_td _)) h⟩
    · exact h.elim
  · exact h.elim
theorem df_sortD (hc : X.calm = true) (hg : Gl X "sorted") (hm : X.mg "sorted" = none) (ha : DP X G a fp) (h1 : starEach [a] X.env = (false, eval a X.env) :: starEach [] X.env := by rfl) : DF X G (.Call (.Name "sorted" p) [a] [] pos) (bnd fp sortDF) := df_b1 (call_sortedDA hc) u_sortDF hg hm (by decide +kernel) ha (h1 := h1)
/-! ### list(d) -/
theorem keyP_td {I : Addr → Prop} (k : Key) : Td K false H I (keyP' k) (kV k) := by
  cases k with
  | inl i => exact .int i
  | inr x => exact .str x
theorem keysP_td {I : Addr → Prop} : ∀ {ds : List (Key × D)} {vs : List (Key × V)}, vs.map (·.1) = ds.map (·.1) → TdL K false H I (ds.map fun kv => keyP' kv.1) (vs.map fun kv => kV kv.1)
  | [], [], _ => .nil
  | [], _ :: _, e => by simp at e
  | _ :: _, [], e => by simp at e
  | (k, d) :: ds, (k', v) :: vs, e => by
    rw [List.map_cons, List.map_cons] at e
    injection e with e1 e2
    have e1 : k' = k := e1
    subst e1
    exact .cons (keyP_td k') (keysP_td e2)
theorem u_listDF : U1F X G (fun xs H Q => ∃ (a : Addr) (kvs : List (Key × V)), xs = [.ref a] ∧ Rd H a (.dK kvs) ∧ ∀ p, H p = none → Q (.ref p) (upd H p (.lst (kvs.map fun kv => kV kv.1)))) listDF := by
  intro σ w s H q v Q W r h
  unfold listDF at h
  split at h
  · rename_i ds es
    obtain ⟨a, vs, rfl, hq, tl⟩ := dicPk_at W r es
    exact ⟨a, vs, rfl, hq, fun l nl => PostF.new W nl (fun mo => .lst upd_same (keysP_td (vdk_keys tl))) h⟩
  · exact h.elim
theorem df_listD (hc : X.calm = true) (hg : Gl X "list") (hm : X.mg "list" = none) (ha : DP X G a fp) (h1 : starEach [a] X.env = (false, eval a X.env) :: starEach [] X.env := by rfl) : DF X G (.Call (.Name "list" p) [a] [] pos) (bnd fp listDF) := df_t1 (call_listD hc) u_listDF hg hm (by decide +kernel) ha (h1 := h1)
/-! ### sorted of pairs of ints -/
def keyAt (H : Hp) : V → Int × Int
  | .ref b => match H b with
    | some (.tup [.int x, .int y]) => (x, y)
    | _ => (0, 0)
  | _ => (0, 0)
theorem keyAt_of {t : Addr} {q : Int × Int} (h : H t = some (.tup [.int q.1, .int q.2])) : keyAt H (.ref t) = q := by
  unfold keyAt
  simp only [h]
/-- v is the tuple of the pair q -/
def PrV (H : Hp) (v : V) (q : Int × Int) : Prop := ∃ t, v = .ref t ∧ H t = some (.tup [.int q.1, .int q.2])
theorem pairI_at {I : Addr → Prop} {x : P} {v : V} {q : Int × Int} (t : Td K false H I x v) (e : pairI x = some q) : PrV H v q := by
  unfold pairI at e
  split at e
  · cases e
    obtain ⟨b, vs, rfl, h1, t1⟩ := td_tup t
    cases t1 with
    | cons a1 t1 =>
      cases t1 with
      | cons a2 t1 =>
        cases t1
        cases a1
        cases a2
        exact ⟨b, rfl, h1⟩
  · cases e
theorem pairs_at {I : Addr → Prop} : ∀ {ds : List P} {vs : List V} {qs : List (Int × Int)}, TdL K false H I ds vs → ds.mapM pairI = some qs → Paired (PrV H) vs qs
  | [], _, qs, .nil, e => by simp at e; subst e; exact .nil
  | d :: ds, _, qs, .cons h t, e => by
    rw [List.mapM_cons] at e
    simp only [Option.pure_def, Option.bind_eq_bind] at e
    cases e1 : pairI d with
    | none => rw [e1] at e; simp at e
    | some y =>
      rw [e1] at e
      cases e2 : ds.mapM pairI with
      | none => rw [e2] at e; simp at e
      | some ys =>
        rw [e2] at e
        simp at e
        subst e
        exact .cons (pairI_at h e1) (pairs_at t e2)
theorem prv_keys : ∀ {vs : List V} {qs : List (Int × Int)}, Paired (PrV H) vs qs → vs.map (keyAt H) = qs
  | _, _, .nil => rfl
  | _, _, .cons ⟨t, e, h⟩ r => by subst e; rw [List.map_cons, keyAt_of h, prv_keys r]
theorem prv_td {I : Addr → Prop} : ∀ {vs : List V}, (∀ v ∈ vs, PrV H v (keyAt H v)) → TdL K false H I ((vs.map (keyAt H)).map pairP) vs
  | [], _ => .nil
  | v :: vs, h => by
    obtain ⟨t, e, h1⟩ := h v (List.mem_cons_self ..)
    have r := prv_td (I := I) fun v' m => h v' (List.mem_cons_of_mem _ m)
    rw [List.map_cons, List.map_cons]
    refine .cons ?_ r
    rw [e] at h1 ⊢
    exact .tup h1 (.cons (.int _) (.cons (.int _) .nil))
theorem u_sortPF : U1F X G (rSortedPO X.K) sortPF := by
  intro σ w s H q v Q W r h
  unfold sortPF at h
  split at h
  · rename_i xs
    split at h
    · rename_i qs eq
      cases (show Vd X.K H w (.p (.lst xs)) v from r) with
      | p tt =>
        obtain ⟨a, vs, rfl, hq, tl⟩ := tt.lstAt
        have pr := pairs_at tl eq
        have each : ∀ v ∈ vs, PrV H v (keyAt H v) := fun v hv => by
          obtain ⟨y, _, t, e, h1⟩ := paired_at pr v hv
          exact ⟨t, e, by rw [e, keyAt_of h1]; exact h1⟩
        refine ⟨a, vs, keyAt H, rfl, .of hq, fun x hx => each x hx, fun ys l h1 h2 nl => ?_⟩
        have e1 : ys.map (keyAt H) = sortII qs := sortII_of ((h2.perm.map _).trans (by rw [prv_keys pr])) (SrtO.srtd_map h1)
        have each2 : ∀ v ∈ ys, PrV H v (keyAt H v) := fun v hv => each v (h2.perm.mem_iff.mp hv)
        have td := prv_td (K := X.K) (I := w.I) each2
        rw [e1] at td
        exact PostF.new W nl (fun mo => .lst upd_same (td.mono mo.imm)) h
    · exact h.elim
  · exact h.elim
theorem df_sortP (hg : Gl X "sorted") (hm : X.mg "sorted" = none) (ha : DP X G a fp) (h1 : starEach [a] X.env = (false, eval a X.env) :: starEach [] X.env := by rfl) : DF X G (.Call (.Name "sorted" p) [a] [] pos) (bnd fp sortPF) := df_b1 cr_sortedPO u_sortPF hg hm (by decide +kernel) ha (h1 := h1)
end
end Dz
/-! sorted(d.items()), a dict from ints to ints -/
namespace Dz
open PySem PySem.Spec PyProof.Rows L2 Lz L2.DX
/-- the pair that v is, in the heap -/
def keyHp (h : Heap) : Value → Int × Int
  | .ref b => match h.get? b with
    | some o => match o.data with
      | .seq its _ => match its.toList with
        | [.int x _, .int y _] => (x, y)
        | _ => (0, 0)
      | _ => (0, 0)
    | none => (0, 0)
  | _ => (0, 0)
theorem keyHp_of {h : Heap} {v : Value} {q : Int × Int} (p : Srt.IsPair h v q.1 q.2) : keyHp h v = q := by
  obtain ⟨a, o, t, u, n, e, ho, hc, hd⟩ := p
  subst e
  unfold keyHp
  simp only [ho, hd]
def refAd : Value → Addr
  | .ref b => b
  | _ => 0
theorem pairs_ix {κ : Type} [DecidableEq κ] {prog : Program} {w : World} {knd : KeyKind prog w κ} : ∀ {es : List DictEntry} {kvs : List (κ × Value)}, Pairs knd es kvs → ∀ {j : Nat} {e : DictEntry}, es[j]? = some e → ∃ kv, kvs[j]? = some kv ∧ knd.is kv.1 e.key = true ∧ e.val = kv.2
  | _, _, .nil, j, e, h => by simp at h
  | _, _, .cons (kv := kv) a b _, 0, e, h => by
    simp only [List.getElem?_cons_zero] at h
    cases h
    exact ⟨kv, rfl, a, b⟩
  | _, _, .cons _ _ t, j + 1, e, h => by
    simp only [List.getElem?_cons_succ] at h
    obtain ⟨kv, e1, e2⟩ := pairs_ix t h
    exact ⟨kv, by simpa using e1, e2⟩
theorem pairs_len {κ : Type} [DecidableEq κ] {prog : Program} {w : World} {knd : KeyKind prog w κ} : ∀ {es : List DictEntry} {kvs : List (κ × Value)}, Pairs knd es kvs → es.length = kvs.length
  | _, _, .nil => rfl
  | _, _, .cons _ _ t => by rw [List.length_cons, List.length_cons, pairs_len t]
def kvII (q : Int × Int) : Key × V := (Sum.inl q.1, V.int q.2)
section
variable {X : Cx}
def rItemsK : V → List V → Hp → VK → Prop := fun x xs H Q => ∃ (a : Addr) (kvs : List (Key × V)), x = .ref a ∧ xs = [] ∧ H a = some (.dK kvs) ∧ ∀ p, H p = none → Q (.ref p) (upd H p (itemsO p a))
theorem mt_itemsK : MtR X "dict.items" rItemsK := by
  intro pins s σ H x xs v us Q I rx rxs h
  obtain ⟨a, kvs, rfl, rfl, ha, q⟩ := h
  cases rx
  cases rxs
  obtain ⟨z, hd, vs, rel, o, es, ep, ho, hx, hdat, _⟩ := dk_of I.hok ha
  refine DT.callItems (es := es) (ep := ep) hd ⟨o, ho, hx, hdat⟩ ?_
  have hf : H s.heap.objs.size = none := I.hok.fresh (Nat.le_refl _)
  exact ⟨.ref s.heap.objs.size, upd H s.heap.objs.size (itemsO s.heap.objs.size a), I.laid (t' := s.toks) (fun b u e => Heap.get?_push_of_some _ e) (Nat.le_refl _) (itemsO_ok (Heap.get?_push_size _ rfl)), rfl, q _ hf⟩
def rSortItI : List V → Hp → VK → Prop := fun vs H Q => ∃ (p a : Addr) (qs : List (Int × Int)), vs = [.ref p] ∧ H p = some (itemsO p a) ∧ H a = some (.dK (qs.map kvII)) ∧
  ∀ (ps : List (Addr × Int × Int)) (S : Addr), ps.map (·.2) = sortII qs → (ps.map (·.1)).Nodup → (∀ q ∈ ps, H q.1 = none) → H S = none → (∀ q ∈ ps, q.1 ≠ S) →
    Q (.ref S) (upd (layL H (ps.map fun q => (q.1, V.int q.2.1, V.int q.2.2))) S (.lst (ps.map fun q => V.ref q.1)))
theorem cr_sortItI (hc : X.calm = true) : CallR X (.builtin "sorted") rSortItI := by
  intro pins s σ H xs us Q I r h
  obtain ⟨p, a, qs, rfl, hp, ha, q⟩ := h
  obtain rfl := Vals.ref1 r
  have view : s.heap.IsItemsView p a := (show ObjOk X.prog X.w H s.heap p (itemsO p a) from I.hok p _ hp).1
  obtain ⟨z, hd, vs, rel, o, es, ep, ho, hx, hdat, hes, his, hn⟩ := dk_of I.hok ha
  have l1 : (qs.map kvII).length = vs.length := KV.length rel
  rw [List.length_map] at l1 z
  have l2 : es.size = vs.length := by rw [← Array.length_toList]; exact pairs_len his
  have hh : X.A.handled = none := I.ok.hd hc
  refine DT.sortedI (es := es) (ep := ep) hh view ⟨o, ho, hx, hdat⟩ (by omega) fun h' tk as hk hlt hl hG => ?_
  have lak : as.length = qs.length := by omega
  have nd : as.Nodup := List.Pairwise.imp (fun h => Nat.ne_of_lt h) hG.rise
  have pr : ∀ (j : Nat) (b : Addr), as[j]? = some b → ∃ (e : Int × Int) (t u : Tok), qs[j]? = some e ∧ h'.get? b = some { cls := .type "tuple", data := .seq #[Value.int e.1 t, Value.int e.2 u] } := by
    intro j b hj
    obtain ⟨en, he, hg⟩ := hG.pairs j b hj
    obtain ⟨kv, e1, e2, e3⟩ := pairs_ix his (by rw [Array.getElem?_toList]; exact he)
    obtain ⟨x, f1, f2⟩ := KV.at' rel (i := j) (k := kv.1) (v := kv.2) e1
    rw [List.getElem?_map] at f1
    cases hq : qs[j]? with
    | none => rw [hq] at f1; cases f1
    | some e =>
      rw [hq] at f1
      have f1 : kvII e = (kv.1, x) := Option.some.inj f1
      injection f1 with g1 g2
      rw [← g2] at f2
      obtain ⟨u, hu⟩ := f2
      rcases keyIs_shape (show keyIs kv.1 en.key = true from e2) with ⟨i, t, ek, ev⟩ | ⟨y, t, ek, ev⟩
      · rw [← g1] at ek
        cases ek
        refine ⟨e, t, u, rfl, ?_⟩
        rw [hg, ev, e3, hu]
        all_goals rfl
      · rw [← g1] at ek
        cases ek
  have hob : (h'.push { cls := .type "list", data := .seq (as.map Value.ref).toArray }).get? h'.objs.size = some (seqObj "list" (as.map Value.ref).toArray 0) := Heap.get?_push_size _ rfl
  have ne0 : ∀ b o, h'.get? b = some o → b ≠ h'.objs.size := fun b o e => Nat.ne_of_lt (Heap.lt_size e)
  generalize hh2 : h'.push { cls := .type "list", data := .seq (as.map Value.ref).toArray } = h2 at hob ⊢
  have ka : ∀ b o, h'.get? b = some o → h2.get? b = some o := fun b o e => by rw [← hh2]; exact Heap.get?_push_of_some _ e
  have pin : ∀ (j : Nat) (b : Addr), as[j]? = some b → ∃ e : Int × Int, qs[j]? = some e ∧ Srt.IsPair h2 (.ref b) e.1 e.2 := by
    intro j b hj
    obtain ⟨e, t, u, he, hg⟩ := pr j b hj
    exact ⟨e, he, b, _, t, u, 0, rfl, ka _ _ hg, rfl, rfl⟩
  have at_ : ∀ v ∈ as.map Value.ref, ∃ (j : Nat) (b : Addr), v = .ref b ∧ as[j]? = some b := by
    intro v hv'
    obtain ⟨b, hb, rfl⟩ := List.mem_map.mp hv'
    obtain ⟨j, hj⟩ := List.mem_iff_getElem?.mp hb
    exact ⟨j, b, rfl, hj⟩
  have hkeys : (as.map Value.ref).map (keyHp h2) = qs := by
    apply List.ext_getElem?
    intro j
    rw [List.getElem?_map, List.getElem?_map]
    cases hj : as[j]? with
    | none =>
      have := List.getElem?_eq_none_iff.mp hj
      exact (List.getElem?_eq_none (by omega)).symm
    | some b =>
      obtain ⟨e, he, ip⟩ := pin j b hj
      rw [he]
      show some (keyHp h2 (.ref b)) = some e
      rw [keyHp_of ip]
  have hp2 : ∀ v ∈ as.map Value.ref, Srt.IsPair h2 v (keyHp h2 v).1 (keyHp h2 v).2 := fun v hv => by
    obtain ⟨j, b, rfl, hj⟩ := at_ v hv
    obtain ⟨e, he, ip⟩ := pin j b hj
    rw [keyHp_of ip]
    exact ip
  have hz : (as.map Value.ref).length ≤ sizeLine := by rw [List.length_map, lak]; exact z
  refine wpAny_call_entry PyProof.Rows.slot_list_sort ⟨_, hob, rfl⟩ PyProof.Rows.entry_list_sort
    (SrtO.list_sort_ord (s := { s with heap := h2, toks := tk }) (SrtO.swo_lex (keyHp h2)) hob hz (fun h3 => SrtO.pairs_sortableO (by omega) hp2 fun o e => ?_) fun out o1 o2 => ⟨.none, rfl, ?_⟩) (PyProof.Rows.args_list_sort _)
  · have e' : some o = some (seqObj "list" (as.map Value.ref).toArray 0) := e.symm.trans hob
    cases e'
    intro c
    exact absurd (Value.type.inj c) (by decide)
  · show EP X pins σ Q (.ref h'.objs.size) { s with heap := sortedHeap h2 h'.objs.size (as.map Value.ref) out.toArray, toks := tk }
    have perm := o2.perm
    have mem : ∀ v ∈ out, v ∈ as.map Value.ref := fun v hv => perm.mem_iff.mp hv
    obtain ⟨eF, heF⟩ := PyProof.Rows.sortedHeap_at (vs := as.map Value.ref) (out := out.toArray) hob
    have kF : ∀ b o, b ≠ h'.objs.size → h2.get? b = some o → (sortedHeap h2 h'.objs.size (as.map Value.ref) out.toArray).get? b = some o := fun b o hb e => (PyProof.Rows.sortedHeap_old hb (Heap.lt_size e)).trans e
    generalize sortedHeap h2 h'.objs.size (as.map Value.ref) out.toArray = gF at heF kF ⊢
    have kS : ∀ b o, s.heap.get? b = some o → gF.get? b = some o := fun b o e => kF b o (ne0 _ _ (hk b o e)) (ka _ _ (hk b o e))
    -- the pairs in their new order
    obtain ⟨ps, hps, hout⟩ : ∃ ps : List (Addr × Int × Int), ps = out.map (fun v => (refAd v, keyHp h2 v)) ∧ out = ps.map fun q => Value.ref q.1 := by
      refine ⟨_, rfl, ?_⟩
      rw [List.map_map]
      refine (List.map_id out).symm.trans (List.map_congr_left fun v hv => ?_)
      obtain ⟨_, b, rfl, _⟩ := at_ v (mem v hv)
      rfl
    have e2 : ps.map (·.2) = sortII qs := by
      rw [hps, List.map_map]
      refine sortII_of ?_ (List.pairwise_map.mpr o1)
      have := perm.map (keyHp h2)
      rw [hkeys] at this
      exact this
    have mps : ∀ q ∈ ps, q.1 ∈ as ∧ ∃ t u, h'.get? q.1 = some { cls := .type "tuple", data := .seq #[Value.int q.2.1 t, Value.int q.2.2 u] } := fun q hq => by
      have hv : Value.ref q.1 ∈ out := by rw [hout]; exact List.mem_map.mpr ⟨q, hq, rfl⟩
      obtain ⟨j, b, eb, hj⟩ := at_ _ (mem _ hv)
      cases eb
      obtain ⟨e, t, u, he, hg⟩ := pr j _ hj
      have ek : q.2 = e := by
        rw [hps] at hq
        obtain ⟨v, hv2, rfl⟩ := List.mem_map.mp hq
        obtain ⟨j2, b2, rfl, hj2⟩ := at_ v (mem v hv2)
        obtain ⟨e', he', ip⟩ := pin j _ hj
        rw [he] at he'
        cases he'
        exact keyHp_of ip
      rw [ek]
      exact ⟨List.mem_of_getElem? hj, t, u, hg⟩
    have big : ∀ q ∈ ps, s.heap.objs.size ≤ (q.1 : Nat) := fun q hq => Nat.le_of_lt (hG.above _ (mps q hq).1)
    have neS : ∀ q ∈ ps, q.1 ≠ h'.objs.size := fun q hq => by
      obtain ⟨_, t, u, hg⟩ := mps q hq
      exact ne0 _ _ hg
    have nd2 : (ps.map (·.1)).Nodup := by
      have e : ps.map (·.1) = out.map refAd := by rw [hps, List.map_map]; rfl
      have p2 := perm.map refAd
      rw [List.map_map, show (refAd ∘ Value.ref) = id from rfl, List.map_id] at p2
      rw [e]
      exact p2.nodup_iff.mpr nd
    have hS : H h'.objs.size = none := I.hok.fresh (Nat.le_of_lt hlt)
    -- laid
    obtain ⟨G, g2, g3⟩ := L2.restrict gF fun b => decide (b ≠ h'.objs.size)
    have Gg : ∀ b o, G.get? b = some o → gF.get? b = some o := fun b o e => by
      cases q : decide (b ≠ h'.objs.size) with
      | true => rw [← g2 b q]; exact e
      | false => rw [g3 b q] at e; cases e
    have kG : ∀ b o, s.heap.get? b = some o → G.get? b = some o := fun b o e => by
      rw [g2 b (decide_eq_true (ne0 _ _ (hk b o e)))]
      exact kS b o e
    have nd3 : ((ps.map fun q => (q.1, V.int q.2.1, V.int q.2.2)).map (·.1)).Nodup := by rw [List.map_map]; exact nd2
    have I3 := lay_inv (X := X) (pins := pins) (σ := σ) (s := s) (ps.map fun q => (q.1, V.int q.2.1, V.int q.2.2)) s.heap H I kG (fun x hm => by
      obtain ⟨q, hq, rfl⟩ := List.mem_map.mp hm
      obtain ⟨_, t, u, hg⟩ := mps q hq
      exact ⟨none_at (big q hq), I.hok.fresh (big q hq), _, _, ⟨t, rfl⟩, ⟨u, rfl⟩, (g2 q.1 (decide_eq_true (neS q hq))).trans (kF _ _ (neS q hq) (ka _ _ hg))⟩) nd3
    have neS3 : ∀ x ∈ (ps.map fun q => (q.1, V.int q.2.1, V.int q.2.2)), x.1 ≠ h'.objs.size := fun x hm => by
      obtain ⟨q, hq, rfl⟩ := List.mem_map.mp hm
      exact neS q hq
    have lps : (ps.map fun q => V.ref q.1).length ≤ sizeLine := by
      have e := perm.length_eq
      rw [hout, List.length_map] at e
      rw [List.length_map, e]
      exact hz
    have rv : ∀ l : List (Addr × Int × Int), Vals (l.map fun q => V.ref q.1) (l.map fun q => Value.ref q.1) := fun l => by
      induction l with
      | nil => exact .nil
      | cons x l ih => exact .cons rfl ih
    exact ⟨.ref h'.objs.size, _, I3.laidN (t' := tk) (o := .lst (ps.map fun q => V.ref q.1)) Gg (g3 _ (by simp)) (layL_none hS neS3) ⟨lps, out, eF, by rw [hout]; exact rv ps, heF⟩, rfl, q ps _ e2 nd2 (fun q hq => I.hok.fresh (big q hq)) hS neS⟩
end
end Dz
namespace Dz
open PySem PySem.Spec PyProof.Rows L2 Lz L2.DX
/-- an entry from an int to an int -/
def kvI : Key × D → Option (Int × Int)
  | (.inl k, .p (.int v)) => some (k, v)
  | _ => none
/-- sorted(d.items()) -/
def sortItF (go : Ev) : Sta → Res Lin := bnd go fun d s => match d with
  | .loc n => match dicOf (.loc n) s with
    | some kvs => match kvs.mapM kvI with
      | some qs => .ok (.lst ((sortII qs).map pairP)) s
      | none => .bad
    | none => .bad
  | _ => .bad
/-- xs[lo:hi] = v, v a list of data -/
def sliceAt (d l c v : D) (s : Sta) : Option Sta := match d, l, c, v with
  | .loc n, .p (.int i), .p (.int j), .p (.lst ys) => match s.st with
    | some S => match S[n]? with
      | some (.lst ds) => if 0 ≤ i ∧ i ≤ j ∧ j ≤ ds.length ∧ ds.length + ys.length ≤ sizeLine then some ⟨s.sl, some (S.set n (.lst (ds.take i.toNat ++ ys.map .p ++ ds.drop j.toNat)))⟩ else none
      | _ => none
    | none => none
  | _, _, _, _ => none
def sliceG (go gl gh : Ev) : Tg := fun v s => match go s with
  | .ok d s1 => match gl s1 with
    | .ok l s2 => match gh s2 with
      | .ok c s3 => sliceAt d l c v s3
      | _ => none
    | _ => none
  | _ => none
section
variable {X : Cx} {G : Env} {σ σ' : L2.St} {w w1 w' : Wo} {H H1 H' : Hp} {s s1 s' : Sta} {K : PySem.W.Frag} {mg : Str → Option Value} {B : Ba}
variable {a b c e f o i value lo hi : Expr} {es : List Expr} {g h go gi gl gh gv gk gx : Ev} {pos pos' p p2 apos cpos tpos : Pos} {fp : Sta → Res Pk} {to : TE} {tl th : TO}
theorem kvs_II : ∀ {ds : List (Key × D)} {vs : List (Key × V)} {qs : List (Int × Int)}, VdK K H w ds vs → ds.mapM kvI = some qs → vs = qs.map kvII
  | [], _, qs, .nil, e => by simp at e; subst e; rfl
  | (k, d) :: ds, _, qs, .cons (vs := vs) h t, e => by
    rw [List.mapM_cons] at e
    simp only [Option.pure_def, Option.bind_eq_bind] at e
    cases e1 : kvI (k, d) with
    | none => rw [e1] at e; simp at e
    | some y =>
      rw [e1] at e
      cases e2 : ds.mapM kvI with
      | none => rw [e2] at e; simp at e
      | some ys =>
        rw [e2] at e
        simp at e
        subst e
        unfold kvI at e1
        split at e1
        · rename_i k' v' heq
          cases heq
          cases e1
          cases h with
          | p t1 =>
            cases t1
            rw [kvs_II t e2]
            rfl
        · cases e1
theorem lay_pairs {I : Addr → Prop} : ∀ {ps : List (Addr × Int × Int)}, (∀ q ∈ ps, H q.1 = some (.tup [V.int q.2.1, V.int q.2.2])) → TdL K false H I ((ps.map (·.2)).map pairP) (ps.map fun q => V.ref q.1)
  | [], _ => .nil
  | q :: ps, h => .cons (.tup (h q (List.mem_cons_self ..)) (.cons (.int _) (.cons (.int _) .nil))) (lay_pairs fun q' m => h q' (List.mem_cons_of_mem _ m))
theorem df_sortItems (hc : X.calm = true) (hg : Gl X "sorted") (hm : X.mg "sorted" = none) (ho : DE X G o go)
    (hbase : attributeBase o "items" X.env (eval o X.env) = eval o X.env := by rfl) (hline : (apos.endLine == cpos.line) = true := by rfl)
    (h1 : starEach [Expr.Call (.Attribute o "items" apos) [] [] cpos] X.env = (false, eval (.Call (.Attribute o "items" apos) [] [] cpos) X.env) :: starEach [] X.env := by rfl) (hpl : (backTo pos (starEach [] X.env)).any (·.1) = false := by rfl) :
    DF X G (.Call (.Name "sorted" p) [.Call (.Attribute o "items" apos) [] [] cpos] [] pos) (sortItF go) :=
  PEi (pe_callB (cr_sortItI hc) hg hm (by decide +kernel) (pa_cons (pe_bm0 PySem.F.plainAttrs_dict PySem.F.slot_dict_items PySem.F.type_dict_items mt_itemsK ho hbase hline) pa_nil h1) (by decide) (by decide) h1 hpl) fun σ H Q ⟨w, s, W, h⟩ => ⟨w, s, W, PostF.bind h fun d s1 vq w1 H1 m1 W1 r1 h1 => by
    split at h1
    · rename_i n
      split at h1
      · rename_i kvs ek
        split at h1
        · rename_i qs eq
          obtain ⟨a, vs, rfl, ha, tv⟩ := dic_atL W1 r1 ek
          have ev := kvs_II tv eq
          subst ev
          refine ⟨.inr (.inr (.inl ⟨rfl, .inl ⟨_, ha⟩⟩)), a, _, rfl, rfl, ha, fun p np => ⟨p, a, qs, rfl, upd_same, by rw [upd_ne (ne_of_none ha np)]; exact ha, fun ps S e2 nd hn hS ne => ?_⟩⟩
          obtain ⟨mo1, W2, _⟩ := W1.bare (o := itemsO p a) np
          have nd' : ((ps.map fun q => (q.1, V.int q.2.1, V.int q.2.2)).map (·.1)).Nodup := by rw [List.map_map]; exact nd
          obtain ⟨mo2, W3, h3⟩ := lay_wd (ps := ps.map fun q => (q.1, V.int q.2.1, V.int q.2.2)) W2 (fun x hx => by
            obtain ⟨q, hq, rfl⟩ := List.mem_map.mp hx
            exact hn q hq) nd'
          have hS2 : layL (upd H1 p (itemsO p a)) (ps.map fun q => (q.1, V.int q.2.1, V.int q.2.2)) S = none := layL_none hS (fun x hx => by
            obtain ⟨q, hq, rfl⟩ := List.mem_map.mp hx
            exact ne q hq)
          have td : TdL X.K false (layL (upd H1 p (itemsO p a)) (ps.map fun q => (q.1, V.int q.2.1, V.int q.2.2))) w1.I ((sortII qs).map pairP) (ps.map fun q => V.ref q.1) := by
            rw [← e2]
            exact lay_pairs fun q hq => h3 _ (List.mem_map.mpr ⟨q, hq, rfl⟩)
          exact PostF.new W3 hS2 (fun mo => .lst upd_same (td.mono mo.imm)) (h1.at (mo1.trans mo2))
        · exact h1.elim
      · exact h1.elim
    · exact h1.elim⟩
/-! ### xs[lo:hi] = ys -/
def gSlice (to : TE) (tl th : TO) : TG := fun v σ H Q => to σ H fun o H1 => tl σ H1 fun l H2 => th σ H2 fun u H3 => ∃ (a b : Addr) (xs ys : List V) (i j : Int), o = .ref a ∧ v = .ref b ∧ l = some i ∧ u = some j ∧ H3 a = some (.lst xs) ∧ H3 b = some (.lst ys) ∧ a ≠ b ∧
  0 ≤ i ∧ i ≤ j ∧ j ≤ xs.length ∧ xs.length + ys.length ≤ sizeLine ∧ Q σ (upd H3 a (.lst (xs.take i.toNat ++ ys ++ xs.drop j.toNat)))
theorem pg_slice {lo hi : Option Expr} (ho : PE X o to) (hl : PO X lo tl) (hh : PO X hi th)
    (ha : ∀ v, assign (.Subscript o (.Slice lo hi none p2) pos) X.env v = (do
      let ov ← holding [v] (eval o X.env)
      let iv ← holding [v, ov] (eval (.Slice lo hi none p2) X.env)
      standAt pos
      holding [v, ov, iv] (setItem ov iv v)
      release [iv, v, ov] []) := by intro _; rfl) : PG X (.Subscript o (.Slice lo hi none p2) pos) (gSlice to tl th) := by
  refine ⟨fun pins s σ H v u Q I r h => ?_⟩
  rw [ha]
  refine wpAny_bind (wpAny_holding (thn (ho.run pins s σ H _ I h) fun ov s1 ⟨x, H1, I1, r1, q1⟩ => ?_))
  refine wpAny_bind (wpAny_holding (wpAny_Slice (thn (hl.run pins s1 σ H1 _ I1 q1) fun vl s2 ⟨l, H2, I2, pl, q2⟩ => thn (hh.run pins s2 σ H2 _ I2 q2) fun vu s3 ⟨c, H3, I3, pu, q3⟩ => ?_)))
  rw [evalPart_none]
  refine wpAny_pure ?_
  obtain ⟨a, b, xs, ys, i, j, ex, ev, el, eu, h1, h2, hne, h3, h4, h5, h6, q⟩ := q3
  subst ex ev el eu
  obtain rfl : ov = Value.ref a := r1
  obtain rfl : u = Value.ref b := r
  obtain ⟨ta, rfl⟩ : ∃ t, vl = Value.int i t := by cases pl; exact ⟨_, rfl⟩
  obtain ⟨tb, rfl⟩ : ∃ t, vu = Value.int j t := by cases pu; exact ⟨_, rfl⟩
  have I4 : Inv X pins σ H3 { s3 with heap := s3.heap.push { cls := .type "slice", data := .fields #[.int i ta, .int j tb, .none] } } := I3.kept (t' := s3.toks) fun b ob q => Heap.get?_push_of_some _ q
  refine wpAny_bind (wpAny_standAt (wpAny_bind (wpAny_holding (set_slice I4 h1 h2 hne (Heap.IsSliceOf.new ..) ⟨_, rfl⟩ ⟨_, rfl⟩ h3 h4 h5 h6 fun s5 I5 => ?_))))
  exact wpAny_release ⟨σ, _, I5, q⟩
theorem dg_slice (ho : DE X G o go) (hl : DE X G lo gl) (hh : DE X G hi gh)
    (ha : ∀ v, assign (.Subscript o (.Slice (some lo) (some hi) none p2) pos) X.env v = (do
      let ov ← holding [v] (eval o X.env)
      let iv ← holding [v, ov] (eval (.Slice (some lo) (some hi) none p2) X.env)
      standAt pos
      holding [v, ov, iv] (setItem ov iv v)
      release [iv, v, ov] []) := by intro _; rfl) : DG X G (.Subscript o (.Slice (some lo) (some hi) none p2) pos) (sliceG go gl gh) :=
  PGi (pg_slice ho (po_some hl) (po_some hh) ha) fun v σ H Q ⟨w, s, d, W, hv, h⟩ => by
    unfold sliceG at h
    refine ⟨w, s, W, ?_⟩
    cases e : go s with
    | ok d1 s1 =>
      simp only [e] at h
      intro ov w1 H1 m1 W1 r1
      cases e2 : gl s1 with
      | ok l s2 =>
        simp only [e2] at h
        refine ⟨w1, s1, W1, ?_⟩
        rw [e2]
        intro lv w2 H2 m2 W2 r2
        cases e3 : gh s2 with
        | ok c s3 =>
          simp only [e3] at h
          cases e4 : sliceAt d1 l c d s3 with
          | none => rw [e4] at h; exact (show False from h).elim
          | some s4 =>
            rw [e4] at h
            unfold sliceAt at e4
            split at e4
            · rename_i n i j ys
              cases es : s3.st with
              | none => simp only [es] at e4; cases e4
              | some S =>
                simp only [es] at e4
                split at e4
                · rename_i ds em
                  split at e4
                  · rename_i hz
                    cases e4
                    cases r2 with
                    | p t2 =>
                      cases t2
                      refine ⟨i, rfl, w2, s2, W2, ?_⟩
                      rw [e3]
                      intro cv w3 H3 m3 W3 r3
                      cases r3 with
                      | p t3 =>
                        cases t3
                        refine ⟨j, rfl, ?_⟩
                        obtain ⟨a, rfl, hn, mk⟩ := st_at W3 ((r1.mono m2).mono m3) es em
                        have hno := mk.noOwn
                        have n2 : ¬ w3.I a := W3.snd.ri a (List.mem_of_getElem? hn)
                        cases mk with
                        | @lst _ vs h1 t =>
                          cases hv.mono ((m1.trans m2).trans m3) with
                          | p tv =>
                            cases tv with
                            | @lst b _ us hb hi tl =>
                              have u2 := (TdL.vd tl).mono (Mono.wr (u := .lst (vs.take i.toNat ++ us ++ vs.drop j.toNat)) n2)
                              have t2 := t.mono (Mono.wr (u := .lst (vs.take i.toNat ++ us ++ vs.drop j.toNat)) n2)
                              obtain ⟨W', mo⟩ := W3.wrS (u := .lst (vs.take i.toNat ++ us ++ vs.drop j.toNat)) (m' := .lst (ds.take i.toNat ++ ys.map .p ++ ds.drop j.toNat)) es hn em (.lst upd_same (((VdL.take _ t2).app' u2).app' (VdL.drop _ t2))) hno
                              have l1 := t.len
                              have l2 := tl.len
                              exact ⟨a, b, vs, us, i, j, rfl, rfl, rfl, rfl, h1, hb, fun z => n2 (by rw [z]; exact hi), hz.1, hz.2.1, by omega, by omega, h σ w3 _ (((m1.trans m2).trans m3).trans mo) W'⟩
                  · cases e4
                · cases e4
            · cases e4
        | ex c fs => simp only [e3] at h; exact (show False from h).elim
        | bad => simp only [e3] at h; exact (show False from h).elim
      | ex c fs => simp only [e2] at h; exact (show False from h).elim
      | bad => simp only [e2] at h; exact (show False from h).elim
    | ex c fs => simp only [e] at h; exact (show False from h).elim
    | bad => simp only [e] at h; exact (show False from h).elim
end
end Dz
/-! x != e, x a local list that goes on being changed -/
namespace Dz
open PySem PySem.Spec PyProof.Rows L2
def asPP (k : Pk) (s : Sta) : Option P := match k with
  | .d d => asPS d s
  | .lin (.lst xs) => some (.lst xs)
  | _ => none
def neV (i : Nat) (g : Ev) : Sta → Res Bool := fun s => match pk i s with
  | .ok _ _ => (bnd g fun e => bnd (pk i) fun k s => match asPP k s with
    | some x => match asPS e s with
      | some y => if min (deep x) (deep y) ≤ 60 then .ok (!eqP x y) s else .bad
      | none => .bad
    | none => .bad) s
  | _ => .bad
section
variable {X : Cx} {G : Env} {σ σ' : L2.St} {w w1 w' : Wo} {H H1 H' : Hp} {s s1 s' : Sta} {K : PySem.W.Frag} {mg : Str → Option Value} {B : Ba}
variable {b : Expr} {g : Ev} {pos px : Pos} {x : Str}
theorem asPP_td {k : Pk} {x : P} {v : V} (W : Wd K mg B w σ s H) (h : RP K H w k v) (e : asPP k s = some x) : Td K true H (fun _ => True) x v := by
  cases k with
  | d d => exact asPS_td W h e
  | lin m =>
    obtain ⟨a, rfl, l⟩ := h
    cases l with
    | lst h1 t => cases e; exact .lst h1 trivial ((t.weak).mono (.sub fun _ _ => trivial))
    | dic _ _ => cases e
    | dct _ _ => cases e
theorem dt_neV {i : Nat} (hu : X.A.units + 64 < cLine) (hb : DE X G b g) (hN : X.N[i]? = some x := by rfl) (hv : Vis X.env.scope x := by first | exact Or.inl rfl | exact Or.inr (Or.inl rfl) | exact Or.inr (Or.inr rfl))
    (hd : (x == ("__debug__" : Str)) = false := by decide) (hcd : (x == ("__classdict__" : Str)) = false := by decide) : DT X G (.Compare (.Name x px) [.NotEq] [b] pos) (neV i g) :=
  PTi (pt_cmpR (op_neP hu) (pe_var (i := i) hN hv hd hcd) hb (nomark _)) fun σ H Q ⟨w, s, W, h⟩ => by
    unfold neV at h
    cases ep : pk i s with
    | bad => rw [ep] at h; exact h.elim
    | ex c fs => exact (pk_ex ep).elim
    | ok k s0 =>
      obtain ⟨rfl, v, ev, rk⟩ := pk_at W ep
      rw [ep] at h
      simp only at h
      refine ⟨v, ev, w, _, W, h.bind fun d s1 u w1 H1 m1 W1 r1 h1 => ?_⟩
      unfold bnd at h1
      cases ep1 : pk i s1 with
      | bad => rw [ep1] at h1; exact h1.elim
      | ex c fs => exact (pk_ex ep1).elim
      | ok k1 s2 =>
        obtain ⟨rfl, v1, ev1, rk1⟩ := pk_at W1 ep1
        rw [ev] at ev1
        cases ev1
        rw [ep1] at h1
        simp only at h1
        split at h1
        · rename_i x ex
          split at h1
          · rename_i y ey
            split at h1
            · rename_i hz
              exact ⟨_, _, _, asPP_td W1 rk1 ex, asPS_td W1 r1 ey, hz, _, rfl, Post.here (R := RB) W1 rfl h1⟩
            · exact h1.elim
          · exact h1.elim
        · exact h1.elim
end
end Dz
/-! what k_is tells of a class -/
namespace Dz
open PySem PySem.Spec PyProof.Rows L2
structure ClsK (K : PySem.W.Frag) (x : Str) (C : Addr) : Prop where
  a : PySem.W.nsIn K mainGlobals x = some (some (.ref C))
  pg : PySem.W.plainGet K C Str.empty = true
  hd : PySem.W.hasDictIn K C = true
  po : PySem.W.plainOver K C = true
  sa : PySem.W.findIn K (.ref C) "__setattr__" = some (some (.builtin "object.__setattr__"))
  mi : PySem.W.makesIn K C = true
  kc : PySem.W.keepIn K (.ref C) = true
structure MethK (K : PySem.W.Frag) (C : Addr) (m qual : Str) (st : Stmt) (f : Addr) (oc kV dc pm cd ct : Value) (od an : Option Addr) (sl : Array (Option Value)) : Prop where
  a : PySem.W.findIn K (.ref C) m = some (some (.ref f))
  i : PySem.W.isFn K (.ref f) = true
  l : K.lookup f = some ⟨oc, od, .func (PySem.W.fnOf m qual (defArgs st) (defBody st) (defScope st) .none kV dc pm an cd ct), sl⟩
  c : PySem.W.codeIn K cd qual = true
  k : PySem.W.keepIn K (.ref f) = true
section
variable {K : PySem.W.Frag} {mg : Str → Option Value} {h : Heap} {x m qual : Str} {C f : Addr} {st : Stmt} {oc kV dc pm cd ct : Value} {od an : Option Addr} {sl : Array (Option Value)} {ps : List Str}
theorem ClsK.cls (c : ClsK K x C) : Cls K C := ⟨c.pg, c.hd, c.po, c.sa⟩
theorem MethK.here (D : MethK K C m qual st f oc kV dc pm cd ct od an sl) (c : ClsK K x C) (X : K.In h) (G : h.Ns mainGlobals mg)
    (hb : ∀ (kV doc pm : Value) (an : Option Addr) (cdv ct : Value) (us : List Value), us.length = ps.length → bindArgs (PySem.W.fnOf m qual (defArgs st) (defBody st) (defScope st) .none kV doc pm an cdv ct) ⟨us, []⟩ = pure (ps.zip us)) : HereM K mg x m qual st ps := by
  have F := fun_mk (st := st) D.l D.c D.k
  exact ⟨⟨C, f, _, PySem.W.mg_of X G c.a, c.cls, ⟨D.a, D.i, D.k⟩, F, F.binds hb⟩⟩
theorem MethK.hereI (D : MethK K C "__init__" qual st f oc kV dc pm cd ct od an sl) (c : ClsK K x C) (X : K.In h) (G : h.Ns mainGlobals mg)
    (hb : ∀ (kV doc pm : Value) (an : Option Addr) (cdv ct : Value) (us : List Value), us.length = ps.length → bindArgs (PySem.W.fnOf "__init__" qual (defArgs st) (defBody st) (defScope st) .none kV doc pm an cdv ct) ⟨us, []⟩ = pure (ps.zip us)) : HereI K mg x qual st ps := by
  have F := fun_mk (st := st) D.l D.c D.k
  exact ⟨⟨C, f, _, PySem.W.mg_of X G c.a, ⟨c.mi, D.a, D.i, c.kc⟩, c.kc, F, F.binds hb⟩⟩
end
end Dz
namespace K85
open PySem PySem.Spec PyProof.Rows L2 Dz
def topS (i : Nat) : Stmt := PySem.Challenge.pw_oneowner_k85_whole_heaps_by_their_words.main.body.getD i (.Pass ⟨0, 0, 0, 0⟩)
def fuel : Nat := 1099511627776
def CT : CTab := [("Heap", ["policy", "unit", "given", "gaps", "height", "behind_last"])]
def k_FIRST_ADDRESS : D := (.p (.int 1))
def k_NO_PIECE : D := (.p (.int (-1)))
section
variable {P : Program} {wd : World} {K : PySem.W.Frag} {mg : Str → Option Value} {base : Heap}
abbrev s_Heap___init__ : Stmt := inClass (topS 3) 0
theorem sc_Heap___init__ : FnScope ["self", "allocator"] ["self", "allocator"] (defScope s_Heap___init__) := ⟨rfl, rfl, rfl, by decide +kernel, rfl, by decide +kernel, by decide +kernel⟩
def g_Heap___init__ : Ex := (seqS (asgS (rd 1) (tupG 2 (consG (fldG CT "policy" (rd 0)) (consG (fldG CT "unit" (rd 0)) nilG)))) (seqS (fldS CT "given" (rd 0) (alloc (.dic []))) (seqS (fldS CT "gaps" (rd 0) (bnd nilA mkLst)) (seqS (fldS CT "height" (rd 0) (cst k_FIRST_ADDRESS)) (fldS CT "behind_last" (rd 0) (cst k_FIRST_ADDRESS))))))
def m_Heap___init__ : Fn := runD 2 g_Heap___init__ 0
theorem ok_Heap___init__ (hC : ClsT K mg CT) (c_FIRST_ADDRESS : Cst K mg "FIRST_ADDRESS" k_FIRST_ADDRESS) (h : HereI K mg "Heap" "Heap.__init__" s_Heap___init__ ["self", "allocator"]) : HasMk P wd K mg base 1 "Heap" ["self", "allocator"] m_Heap___init__ := h.has fun fa fd F => fnB F sc_Heap___init__ rfl fun cdv A outer s0 H0 E G hr hu px po =>
    have nd := sc_Heap___init__.nd
    (dss_cons (ds_asg (de_rd (i := 1)) (dg_tup rfl (dgs_cons (dg_fld hC (de_rd (i := 0))) (dgs_cons (dg_fld hC (de_rd (i := 0))) dgs_nil)))) (dss_cons (ds_fld hC (de_rd (i := 0)) de_dicS) (dss_cons (ds_fld hC (de_rd (i := 0)) (de_lstS da_nil)) (dss_cons (ds_fld hC (de_rd (i := 0)) (de_glob c_FIRST_ADDRESS (by rfl))) (dss_one (ds_fld hC (de_rd (i := 0)) (de_glob c_FIRST_ADDRESS (by rfl))))))))
abbrev s_Heap_size_for : Stmt := inClass (topS 3) 2
theorem sc_Heap_size_for : FnScope ["self", "many", "units"] ["self", "many"] (defScope s_Heap_size_for) := ⟨rfl, rfl, rfl, by decide +kernel, rfl, by decide +kernel, by decide +kernel⟩
def g_Heap_size_for : Ex := (seqS (bndS (bnd2 (bnd2 (bnd2 (bnd (consA (rd 1) (consA (cst (.p (.int 1))) nilA)) maxD) (fldE CT "unit" (rd 0)) addD) (cst (.p (.int 1))) subD) (fldE CT "unit" (rd 0)) fdivD) (setV 2)) (bndS (bnd2 (rd 2) (fldE CT "unit" (rd 0)) mulD) retS))
def m_Heap_size_for : Fn := runD 2 g_Heap_size_for 1
theorem ok_Heap_size_for (hC : ClsT K mg CT) (z_max : mg "max" = none) (h : HereM K mg "Heap" "size_for" "Heap.size_for" s_Heap_size_for ["self", "many"]) : HasMD P wd K mg base 1 "Heap" "size_for" ["self", "many"] m_Heap_size_for := h.has fun fa fd F => fnB F sc_Heap_size_for rfl fun cdv A outer s0 H0 E G hr hu px po =>
    have nd := sc_Heap_size_for.nd
    (dss_cons (ds_set (i := 2) nd rfl (by first | exact Or.inl rfl | exact Or.inr rfl) (de_fdiv (de_sub (de_add (de_max2 rfl (by rfl) z_max (da_cons (de_rd (i := 1)) (da_cons de_int da_nil))) (de_fld hC (de_rd (i := 0)))) de_int) (de_fld hC (de_rd (i := 0))))) (dss_one (ds_ret (de_mul (de_rd (i := 2)) (de_fld hC (de_rd (i := 0)))))))
abbrev s_Heap_smallest_gap : Stmt := inClass (topS 3) 4
theorem sc_Heap_smallest_gap : FnScope ["self", "fitting", "found", "at"] ["self", "fitting"] (defScope s_Heap_smallest_gap) := ⟨rfl, rfl, rfl, by decide +kernel, rfl, by decide +kernel, by decide +kernel⟩
def g_Heap_smallest_gap : Ex := (seqS (bndS (ixV 1 (cst (.p (.int 0)))) (setV 2)) (seqS (forS (bnd (rd 1) walkR) (nameG 3) (ifS (bnd (bnd2 (bnd2 (bnd2 (fldE CT "gaps" (rd 0)) (rd 3) ixD) (cst (.p (.int 1))) ixD) (bnd2 (bnd2 (fldE CT "gaps" (rd 0)) (rd 2) ixD) (cst (.p (.int 1))) ixD) ltD) isBl) (bndS (rd 3) (setV 2)) skip)) (bndS (rd 2) retS)))
def m_Heap_smallest_gap : Fn := runD 2 g_Heap_smallest_gap 2
theorem ok_Heap_smallest_gap (hC : ClsT K mg CT) (h : HereM K mg "Heap" "smallest_gap" "Heap.smallest_gap" s_Heap_smallest_gap ["self", "fitting"]) : HasMD P wd K mg base 1 "Heap" "smallest_gap" ["self", "fitting"] m_Heap_smallest_gap := h.has fun fa fd F => fnB F sc_Heap_smallest_gap rfl fun cdv A outer s0 H0 E G hr hu px po =>
    have nd := sc_Heap_smallest_gap.nd
    (dss_cons (ds_set (i := 2) nd rfl (by first | exact Or.inl rfl | exact Or.inr rfl) (de_ixV (i := 1) hu de_int)) (dss_cons (ds_for po rfl (di_seq (de_rd (i := 1))) (dg_name (i := 3) nd rfl (by first | exact Or.inl rfl | exact Or.inr rfl)) (dss_one (ds_if (dt_lt (de_ix hu (de_ix hu (de_fld hC (de_rd (i := 0))) (de_rd (i := 3))) de_int) (de_ix hu (de_ix hu (de_fld hC (de_rd (i := 0))) (de_rd (i := 2))) de_int)) (dss_one (ds_set (i := 2) nd rfl (by first | exact Or.inl rfl | exact Or.inr rfl) (de_rd (i := 3)))) dss_nil))) (dss_one (ds_ret (de_rd (i := 2))))))
abbrev s_Heap_gap_for : Stmt := inClass (topS 3) 3
theorem sc_Heap_gap_for : FnScope ["self", "size", "fitting", "at"] ["self", "size"] (defScope s_Heap_gap_for) := ⟨rfl, rfl, rfl, by decide +kernel, rfl, by decide +kernel, by decide +kernel⟩
def g_Heap_gap_for : Ex := (seqS (ifS (bnd (bnd2 (fldE CT "policy" (rd 0)) (cst (.p (.str "bump"))) eqD) isBl) (bndS (cst k_NO_PIECE) retS) skip) (seqS (bndS (lcF (bnd (consA (bnd (asPk (fldE CT "gaps" (rd 0))) (fnK lenP)) nilA) rng1) [3] (nameG 3) (bnd (bnd2 (bnd2 (bnd2 (fldE CT "gaps" (rd 0)) (rd 3) ixD) (cst (.p (.int 1))) ixD) (rd 1) geD) isBl) (rd 3)) (setL 2)) (seqS (ifS (notT (bnd (pk 2) truPR)) (bndS (cst k_NO_PIECE) retS) skip) (seqS (ifS (bnd (bnd2 (fldE CT "policy" (rd 0)) (cst (.p (.str "best"))) eqD) isBl) (bndS (methE "Heap" "smallest_gap" m_Heap_smallest_gap (rd 0) (consA (rd 2) nilA)) retS) skip) (seqS (ifS (bnd (bnd2 (fldE CT "policy" (rd 0)) (cst (.p (.str "next"))) eqD) isBl) (forS (bnd (rd 2) walkR) (nameG 3) (ifS (bnd (bnd2 (bnd2 (bnd2 (fldE CT "gaps" (rd 0)) (rd 3) ixD) (cst (.p (.int 0))) ixD) (fldE CT "behind_last" (rd 0)) geD) isBl) (bndS (rd 3) retS) skip)) skip) (bndS (ixV 2 (cst (.p (.int 0)))) retS))))))
def m_Heap_gap_for : Fn := runD 2 g_Heap_gap_for 2
theorem ok_Heap_gap_for (h_Heap_smallest_gap : HasMD P wd K mg base 1 "Heap" "smallest_gap" ["self", "fitting"] m_Heap_smallest_gap) (hC : ClsT K mg CT) (z_len : mg "len" = none) (z_range : mg "range" = none) (c_NO_PIECE : Cst K mg "NO_PIECE" k_NO_PIECE) (h : HereM K mg "Heap" "gap_for" "Heap.gap_for" s_Heap_gap_for ["self", "size"]) : HasMD P wd K mg base 2 "Heap" "gap_for" ["self", "size"] m_Heap_gap_for := h.has fun fa fd F => fnB F sc_Heap_gap_for rfl fun cdv A outer s0 H0 E G hr hu px po =>
    have nd := sc_Heap_gap_for.nd
    (dss_cons (ds_if (dt_eq hu (de_fld hC (de_rd (i := 0))) de_str) (dss_one (ds_ret (de_glob c_NO_PIECE (by rfl)))) dss_nil) (dss_cons (ds_setLc (i := 2) (own := [("at", 3)]) rfl nd rfl rfl (sw_true rfl rfl rfl (by decide +kernel)) (di_rng1 (by rfl) z_range (da_cons (de_len (by rfl) z_len (dp_of (de_fld hC (de_rd (i := 0))))) da_nil)) (blkOk_by (N := ["self", "size", "fitting", "at"]) (sc := defScope s_Heap_gap_for) (by decide +kernel)) (fun _ _ _ _ _ => (pg_name (i := 3) nd rfl (Or.inl rfl))) (raw_name (by decide)) (fun _ _ _ _ _ _ eG => (dts_one (dt_ge (de_ix hu (de_ix hu (de_fld hC (de_rd (i := 0))) (de_rd (i := 3))) de_int) (de_rd (i := 1))))) (fun _ _ _ _ _ _ eG => (de_rd (i := 3)))) (dss_cons (ds_if (dt_not (dt_truP (dp_var (i := 2)))) (dss_one (ds_ret (de_glob c_NO_PIECE (by rfl)))) dss_nil) (dss_cons (ds_if (dt_eq hu (de_fld hC (de_rd (i := 0))) de_str) (dss_one (ds_ret (de_meth h_Heap_smallest_gap hr (by first | decide | omega | (simp only [Nat.add_eq, Nat.succ_eq_add_one]; omega)) px (de_rd (i := 0)) (da_cons (de_rd (i := 2)) da_nil)))) dss_nil) (dss_cons (ds_if (dt_eq hu (de_fld hC (de_rd (i := 0))) de_str) (dss_one (ds_for po rfl (di_seq (de_rd (i := 2))) (dg_name (i := 3) nd rfl (by first | exact Or.inl rfl | exact Or.inr rfl)) (dss_one (ds_if (dt_ge (de_ix hu (de_ix hu (de_fld hC (de_rd (i := 0))) (de_rd (i := 3))) de_int) (de_fld hC (de_rd (i := 0)))) (dss_one (ds_ret (de_rd (i := 3)))) dss_nil)))) dss_nil) (dss_one (ds_ret (de_ixV (i := 2) hu de_int))))))))
abbrev s_Heap_cut : Stmt := inClass (topS 3) 5
theorem sc_Heap_cut : FnScope ["self", "at", "size", "address", "many"] ["self", "at", "size"] (defScope s_Heap_cut) := ⟨rfl, rfl, rfl, by decide +kernel, rfl, by decide +kernel, by decide +kernel⟩
def g_Heap_cut : Ex := (seqS (asgS (bnd2 (fldE CT "gaps" (rd 0)) (rd 1) ixD) (tupG 2 (consG (nameG 3) (consG (nameG 4) nilG)))) (seqS (ifS (bnd (bnd2 (rd 4) (rd 2) gtD) isBl) (asgS (bnd (consA (bnd2 (rd 3) (rd 2) addD) (consA (bnd2 (rd 4) (rd 2) subD) nilA)) mkTup) (subG (fldE CT "gaps" (rd 0)) (rd 1))) (delS (fldE CT "gaps" (rd 0)) (rd 1))) (bndS (rd 3) retS)))
def m_Heap_cut : Fn := runD 3 g_Heap_cut 2
theorem ok_Heap_cut (hC : ClsT K mg CT) (h : HereM K mg "Heap" "cut" "Heap.cut" s_Heap_cut ["self", "at", "size"]) : HasMD P wd K mg base 1 "Heap" "cut" ["self", "at", "size"] m_Heap_cut := h.has fun fa fd F => fnB F sc_Heap_cut rfl fun cdv A outer s0 H0 E G hr hu px po =>
    have nd := sc_Heap_cut.nd
    (dss_cons (ds_asg (de_ix hu (de_fld hC (de_rd (i := 0))) (de_rd (i := 1))) (dg_tup rfl (dgs_cons (dg_name (i := 3) nd rfl (by first | exact Or.inl rfl | exact Or.inr rfl)) (dgs_cons (dg_name (i := 4) nd rfl (by first | exact Or.inl rfl | exact Or.inr rfl)) dgs_nil)))) (dss_cons (ds_if (dt_gt (de_rd (i := 4)) (de_rd (i := 2))) (dss_one (ds_asg (de_tup (da_cons (de_add (de_rd (i := 3)) (de_rd (i := 2))) (da_cons (de_sub (de_rd (i := 4)) (de_rd (i := 2))) da_nil))) (dg_sub (Nat.lt_of_le_of_lt (Nat.add_le_add_left (by decide) _) hu) (de_fld hC (de_rd (i := 0))) (de_rd (i := 1))))) (dss_one (ds_del (de_fld hC (de_rd (i := 0))) (de_rd (i := 1))))) (dss_one (ds_ret (de_rd (i := 3))))))
abbrev s_Heap_take : Stmt := inClass (topS 3) 1
theorem sc_Heap_take : FnScope ["self", "many", "size", "at", "address"] ["self", "many"] (defScope s_Heap_take) := ⟨rfl, rfl, rfl, by decide +kernel, rfl, by decide +kernel, by decide +kernel⟩
def g_Heap_take : Ex := (seqS (bndS (methE "Heap" "size_for" m_Heap_size_for (rd 0) (consA (rd 1) nilA)) (setV 2)) (seqS (bndS (methE "Heap" "gap_for" m_Heap_gap_for (rd 0) (consA (rd 2) nilA)) (setV 3)) (seqS (ifS (bnd (bnd2 (rd 3) (cst k_NO_PIECE) eqD) isBl) (seqS (bndS (fldE CT "height" (rd 0)) (setV 4)) (fldS CT "height" (rd 0) (bnd2 (rd 4) (rd 2) addD))) (bndS (methE "Heap" "cut" m_Heap_cut (rd 0) (consA (rd 3) (consA (rd 2) nilA))) (setV 4))) (seqS (asgS (rd 2) (subG (fldE CT "given" (rd 0)) (rd 4))) (seqS (fldS CT "behind_last" (rd 0) (bnd2 (rd 4) (rd 2) addD)) (bndS (rd 4) retS))))))
def m_Heap_take : Fn := runD 2 g_Heap_take 3
theorem ok_Heap_take (h_Heap_cut : HasMD P wd K mg base 1 "Heap" "cut" ["self", "at", "size"] m_Heap_cut) (h_Heap_gap_for : HasMD P wd K mg base 2 "Heap" "gap_for" ["self", "size"] m_Heap_gap_for) (h_Heap_size_for : HasMD P wd K mg base 1 "Heap" "size_for" ["self", "many"] m_Heap_size_for) (hC : ClsT K mg CT) (c_NO_PIECE : Cst K mg "NO_PIECE" k_NO_PIECE) (h : HereM K mg "Heap" "take" "Heap.take" s_Heap_take ["self", "many"]) : HasMD P wd K mg base 3 "Heap" "take" ["self", "many"] m_Heap_take := h.has fun fa fd F => fnB F sc_Heap_take rfl fun cdv A outer s0 H0 E G hr hu px po =>
    have nd := sc_Heap_take.nd
    (dss_cons (ds_set (i := 2) nd rfl (by first | exact Or.inl rfl | exact Or.inr rfl) (de_meth h_Heap_size_for hr (by first | decide | omega | (simp only [Nat.add_eq, Nat.succ_eq_add_one]; omega)) px (de_rd (i := 0)) (da_cons (de_rd (i := 1)) da_nil))) (dss_cons (ds_set (i := 3) nd rfl (by first | exact Or.inl rfl | exact Or.inr rfl) (de_meth h_Heap_gap_for hr (by first | decide | omega | (simp only [Nat.add_eq, Nat.succ_eq_add_one]; omega)) px (de_rd (i := 0)) (da_cons (de_rd (i := 2)) da_nil))) (dss_cons (ds_if (dt_eq hu (de_rd (i := 3)) (de_glob c_NO_PIECE (by rfl))) (dss_cons (ds_set (i := 4) nd rfl (by first | exact Or.inl rfl | exact Or.inr rfl) (de_fld hC (de_rd (i := 0)))) (dss_one (ds_fld hC (de_rd (i := 0)) (de_add (de_rd (i := 4)) (de_rd (i := 2)))))) (dss_one (ds_set (i := 4) nd rfl (by first | exact Or.inl rfl | exact Or.inr rfl) (de_meth h_Heap_cut hr (by first | decide | omega | (simp only [Nat.add_eq, Nat.succ_eq_add_one]; omega)) px (de_rd (i := 0)) (da_cons (de_rd (i := 3)) (da_cons (de_rd (i := 2)) da_nil)))))) (dss_cons (ds_asg (de_rd (i := 2)) (dg_sub (Nat.lt_of_le_of_lt (Nat.add_le_add_left (by decide) _) hu) (de_fld hC (de_rd (i := 0))) (de_rd (i := 4)))) (dss_cons (ds_fld hC (de_rd (i := 0)) (de_add (de_rd (i := 4)) (de_rd (i := 2)))) (dss_one (ds_ret (de_rd (i := 4)))))))))
abbrev s_Heap_gap_behind : Stmt := inClass (topS 3) 7
theorem sc_Heap_gap_behind : FnScope ["self", "address", "low", "high", "middle"] ["self", "address"] (defScope s_Heap_gap_behind) := ⟨rfl, rfl, rfl, by decide +kernel, rfl, by decide +kernel, by decide +kernel⟩
def g_Heap_gap_behind : Ex := (seqS (bndS (cst (.p (.int 0))) (setV 2)) (seqS (bndS (bnd (asPk (fldE CT "gaps" (rd 0))) (fnK lenP)) (setV 3)) (seqS (whileS (bnd (bnd2 (rd 2) (rd 3) ltD) isBl) (seqS (bndS (bnd2 (bnd2 (rd 2) (rd 3) addD) (cst (.p (.int 2))) fdivD) (setV 4)) (ifS (bnd (bnd2 (bnd2 (bnd2 (fldE CT "gaps" (rd 0)) (rd 4) ixD) (cst (.p (.int 0))) ixD) (rd 1) ltD) isBl) (bndS (bnd2 (rd 4) (cst (.p (.int 1))) addD) (setV 2)) (bndS (rd 4) (setV 3)))) fuel) (bndS (rd 2) retS))))
def m_Heap_gap_behind : Fn := runD 2 g_Heap_gap_behind 3
theorem ok_Heap_gap_behind (hC : ClsT K mg CT) (z_len : mg "len" = none) (h : HereM K mg "Heap" "gap_behind" "Heap.gap_behind" s_Heap_gap_behind ["self", "address"]) : HasMD P wd K mg base 1 "Heap" "gap_behind" ["self", "address"] m_Heap_gap_behind := h.has fun fa fd F => fnB F sc_Heap_gap_behind rfl fun cdv A outer s0 H0 E G hr hu px po =>
    have nd := sc_Heap_gap_behind.nd
    (dss_cons (ds_set (i := 2) nd rfl (by first | exact Or.inl rfl | exact Or.inr rfl) de_int) (dss_cons (ds_set (i := 3) nd rfl (by first | exact Or.inl rfl | exact Or.inr rfl) (de_len (by rfl) z_len (dp_of (de_fld hC (de_rd (i := 0)))))) (dss_cons (ds_while fuel po (dt_lt (de_rd (i := 2)) (de_rd (i := 3))) (dss_cons (ds_set (i := 4) nd rfl (by first | exact Or.inl rfl | exact Or.inr rfl) (de_fdiv (de_add (de_rd (i := 2)) (de_rd (i := 3))) de_int)) (dss_one (ds_if (dt_lt (de_ix hu (de_ix hu (de_fld hC (de_rd (i := 0))) (de_rd (i := 4))) de_int) (de_rd (i := 1))) (dss_one (ds_set (i := 2) nd rfl (by first | exact Or.inl rfl | exact Or.inr rfl) (de_add (de_rd (i := 4)) de_int))) (dss_one (ds_set (i := 3) nd rfl (by first | exact Or.inl rfl | exact Or.inr rfl) (de_rd (i := 4)))))))) (dss_one (ds_ret (de_rd (i := 2)))))))
abbrev s_Heap_unite : Stmt := inClass (topS 3) 8
theorem sc_Heap_unite : FnScope ["self", "at", "address", "size", "other", "more"] ["self", "at"] (defScope s_Heap_unite) := ⟨rfl, rfl, rfl, by decide +kernel, rfl, by decide +kernel, by decide +kernel⟩
def g_Heap_unite : Ex := (seqS (ifS (bnd (bnd2 (bnd2 (rd 1) (cst (.p (.int 1))) addD) (bnd (asPk (fldE CT "gaps" (rd 0))) (fnK lenP)) eqD) isBl) (retS (.p .non)) skip) (seqS (asgS (bnd2 (fldE CT "gaps" (rd 0)) (rd 1) ixD) (tupG 2 (consG (nameG 2) (consG (nameG 3) nilG)))) (seqS (asgS (bnd2 (fldE CT "gaps" (rd 0)) (bnd2 (rd 1) (cst (.p (.int 1))) addD) ixD) (tupG 2 (consG (nameG 4) (consG (nameG 5) nilG)))) (ifS (bnd (bnd2 (bnd2 (rd 2) (rd 3) addD) (rd 4) eqD) isBl) (asgS (frz (bnd (consA (bnd (consA (rd 2) (consA (bnd2 (rd 3) (rd 5) addD) nilA)) mkTup) nilA) mkLin)) (sliceG (fldE CT "gaps" (rd 0)) (rd 1) (bnd2 (rd 1) (cst (.p (.int 2))) addD))) skip))))
def m_Heap_unite : Fn := runD 2 g_Heap_unite 4
theorem ok_Heap_unite (hC : ClsT K mg CT) (z_len : mg "len" = none) (h : HereM K mg "Heap" "unite" "Heap.unite" s_Heap_unite ["self", "at"]) : HasMD P wd K mg base 1 "Heap" "unite" ["self", "at"] m_Heap_unite := h.has fun fa fd F => fnB F sc_Heap_unite rfl fun cdv A outer s0 H0 E G hr hu px po =>
    have nd := sc_Heap_unite.nd
    (dss_cons (ds_if (dt_eq hu (de_add (de_rd (i := 1)) de_int) (de_len (by rfl) z_len (dp_of (de_fld hC (de_rd (i := 0)))))) (dss_one ds_retN) dss_nil) (dss_cons (ds_asg (de_ix hu (de_fld hC (de_rd (i := 0))) (de_rd (i := 1))) (dg_tup rfl (dgs_cons (dg_name (i := 2) nd rfl (by first | exact Or.inl rfl | exact Or.inr rfl)) (dgs_cons (dg_name (i := 3) nd rfl (by first | exact Or.inl rfl | exact Or.inr rfl)) dgs_nil)))) (dss_cons (ds_asg (de_ix hu (de_fld hC (de_rd (i := 0))) (de_add (de_rd (i := 1)) de_int)) (dg_tup rfl (dgs_cons (dg_name (i := 4) nd rfl (by first | exact Or.inl rfl | exact Or.inr rfl)) (dgs_cons (dg_name (i := 5) nd rfl (by first | exact Or.inl rfl | exact Or.inr rfl)) dgs_nil)))) (dss_one (ds_if (dt_eq hu (de_add (de_rd (i := 2)) (de_rd (i := 3))) (de_rd (i := 4))) (dss_one (ds_asg (de_frz (df_lst (da_cons (de_tup (da_cons (de_rd (i := 2)) (da_cons (de_add (de_rd (i := 3)) (de_rd (i := 5))) da_nil))) da_nil))) (dg_slice (de_fld hC (de_rd (i := 0))) (de_rd (i := 1)) (de_add (de_rd (i := 1)) de_int)))) dss_nil)))))
abbrev s_Heap_lower_top : Stmt := inClass (topS 3) 9
theorem sc_Heap_lower_top : FnScope ["self", "address", "size"] ["self"] (defScope s_Heap_lower_top) := ⟨rfl, rfl, rfl, by decide +kernel, rfl, by decide +kernel, by decide +kernel⟩
def g_Heap_lower_top : Ex := (seqS (asgS (bnd2 (fldE CT "gaps" (rd 0)) (bnd (cst (.p (.int 1))) negD) ixD) (tupG 2 (consG (nameG 1) (consG (nameG 2) nilG)))) (ifS (bnd (bnd2 (bnd2 (rd 1) (rd 2) addD) (fldE CT "height" (rd 0)) eqD) isBl) (seqS (fldS CT "height" (rd 0) (rd 1)) (delS (fldE CT "gaps" (rd 0)) (bnd (cst (.p (.int 1))) negD))) skip))
def m_Heap_lower_top : Fn := runD 1 g_Heap_lower_top 2
theorem ok_Heap_lower_top (hC : ClsT K mg CT) (h : HereM K mg "Heap" "lower_top" "Heap.lower_top" s_Heap_lower_top ["self"]) : HasMD P wd K mg base 1 "Heap" "lower_top" ["self"] m_Heap_lower_top := h.has fun fa fd F => fnB F sc_Heap_lower_top rfl fun cdv A outer s0 H0 E G hr hu px po =>
    have nd := sc_Heap_lower_top.nd
    (dss_cons (ds_asg (de_ix hu (de_fld hC (de_rd (i := 0))) (de_neg de_int)) (dg_tup rfl (dgs_cons (dg_name (i := 1) nd rfl (by first | exact Or.inl rfl | exact Or.inr rfl)) (dgs_cons (dg_name (i := 2) nd rfl (by first | exact Or.inl rfl | exact Or.inr rfl)) dgs_nil)))) (dss_one (ds_if (dt_eq hu (de_add (de_rd (i := 1)) (de_rd (i := 2))) (de_fld hC (de_rd (i := 0)))) (dss_cons (ds_fld hC (de_rd (i := 0)) (de_rd (i := 1))) (dss_one (ds_del (de_fld hC (de_rd (i := 0))) (de_neg de_int)))) dss_nil)))
abbrev s_Heap_give : Stmt := inClass (topS 3) 6
theorem sc_Heap_give : FnScope ["self", "address", "size", "at"] ["self", "address"] (defScope s_Heap_give) := ⟨rfl, rfl, rfl, by decide +kernel, rfl, by decide +kernel, by decide +kernel⟩
def g_Heap_give : Ex := (seqS (ifS (bnd (inE true (rd 1) (asPk (fldE CT "given" (rd 0)))) isBl) (bndS (cst (.p (.bl false))) retS) skip) (seqS (bndS (bnd2 (fldE CT "given" (rd 0)) (rd 1) ixD) (setV 2)) (seqS (delS (fldE CT "given" (rd 0)) (rd 1)) (seqS (bndS (methE "Heap" "gap_behind" m_Heap_gap_behind (rd 0) (consA (rd 1) nilA)) (setV 3)) (seqS (insS (fldE CT "gaps" (rd 0)) (rd 3) (bnd (consA (rd 1) (consA (rd 2) nilA)) mkTup)) (seqS (bndS (methE "Heap" "unite" m_Heap_unite (rd 0) (consA (rd 3) nilA)) fun _ => skip) (seqS (ifS (bnd (bnd2 (rd 3) (cst (.p (.int 0))) gtD) isBl) (bndS (methE "Heap" "unite" m_Heap_unite (rd 0) (consA (bnd2 (rd 3) (cst (.p (.int 1))) subD) nilA)) fun _ => skip) skip) (seqS (ifS (bnd (bnd2 (fldE CT "policy" (rd 0)) (cst (.p (.str "bump"))) neD) isBl) (bndS (methE "Heap" "lower_top" m_Heap_lower_top (rd 0) nilA) fun _ => skip) skip) (bndS (cst (.p (.bl true))) retS)))))))))
def m_Heap_give : Fn := runD 2 g_Heap_give 2
theorem ok_Heap_give (h_Heap_gap_behind : HasMD P wd K mg base 1 "Heap" "gap_behind" ["self", "address"] m_Heap_gap_behind) (h_Heap_lower_top : HasMD P wd K mg base 1 "Heap" "lower_top" ["self"] m_Heap_lower_top) (h_Heap_unite : HasMD P wd K mg base 1 "Heap" "unite" ["self", "at"] m_Heap_unite) (hC : ClsT K mg CT) (h : HereM K mg "Heap" "give" "Heap.give" s_Heap_give ["self", "address"]) : HasMD P wd K mg base 2 "Heap" "give" ["self", "address"] m_Heap_give := h.has fun fa fd F => fnB F sc_Heap_give rfl fun cdv A outer s0 H0 E G hr hu px po =>
    have nd := sc_Heap_give.nd
    (dss_cons (ds_if (dt_notInP hu (de_rd (i := 1)) (dp_of (de_fld hC (de_rd (i := 0))))) (dss_one (ds_ret de_bl)) dss_nil) (dss_cons (ds_set (i := 2) nd rfl (by first | exact Or.inl rfl | exact Or.inr rfl) (de_ix hu (de_fld hC (de_rd (i := 0))) (de_rd (i := 1)))) (dss_cons (ds_del (de_fld hC (de_rd (i := 0))) (de_rd (i := 1))) (dss_cons (ds_set (i := 3) nd rfl (by first | exact Or.inl rfl | exact Or.inr rfl) (de_meth h_Heap_gap_behind hr (by first | decide | omega | (simp only [Nat.add_eq, Nat.succ_eq_add_one]; omega)) px (de_rd (i := 0)) (da_cons (de_rd (i := 1)) da_nil))) (dss_cons (ds_ins (de_fld hC (de_rd (i := 0))) (de_rd (i := 3)) (de_tup (da_cons (de_rd (i := 1)) (da_cons (de_rd (i := 2)) da_nil)))) (dss_cons (ds_expr (de_meth h_Heap_unite hr (by first | decide | omega | (simp only [Nat.add_eq, Nat.succ_eq_add_one]; omega)) px (de_rd (i := 0)) (da_cons (de_rd (i := 3)) da_nil))) (dss_cons (ds_if (dt_gt (de_rd (i := 3)) de_int) (dss_one (ds_expr (de_meth h_Heap_unite hr (by first | decide | omega | (simp only [Nat.add_eq, Nat.succ_eq_add_one]; omega)) px (de_rd (i := 0)) (da_cons (de_sub (de_rd (i := 3)) de_int) da_nil)))) dss_nil) (dss_cons (ds_if (dt_ne hu (de_fld hC (de_rd (i := 0))) de_str) (dss_one (ds_expr (de_meth0 h_Heap_lower_top hr (by first | decide | omega | (simp only [Nat.add_eq, Nat.succ_eq_add_one]; omega)) px (de_rd (i := 0))))) dss_nil) (dss_one (ds_ret de_bl))))))))))
abbrev s_Heap_blocks : Stmt := inClass (topS 3) 10
theorem sc_Heap_blocks : FnScope ["self"] ["self"] (defScope s_Heap_blocks) := ⟨rfl, rfl, rfl, by decide +kernel, rfl, by decide +kernel, by decide +kernel⟩
def g_Heap_blocks : Ex := (bndS (bnd (asPk (frz (sortItF (fldE CT "given" (rd 0))))) (fnK tupP)) retS)
def m_Heap_blocks : Fn := runD 1 g_Heap_blocks 0
theorem ok_Heap_blocks (hC : ClsT K mg CT) (z_sorted : mg "sorted" = none) (z_tuple : mg "tuple" = none) (h : HereM K mg "Heap" "blocks" "Heap.blocks" s_Heap_blocks ["self"]) : HasMD P wd K mg base 1 "Heap" "blocks" ["self"] m_Heap_blocks := h.has fun fa fd F => fnB F sc_Heap_blocks rfl fun cdv A outer s0 H0 E G hr hu px po =>
    have nd := sc_Heap_blocks.nd
    (dss_one (ds_ret (de_tupc (by rfl) z_tuple (dp_of (de_frz (df_sortItems rfl (by rfl) z_sorted (de_fld hC (de_rd (i := 0)))))))))
abbrev s_Heap_pieces : Stmt := inClass (topS 3) 11
theorem sc_Heap_pieces : FnScope ["self"] ["self"] (defScope s_Heap_pieces) := ⟨rfl, rfl, rfl, by decide +kernel, rfl, by decide +kernel, by decide +kernel⟩
def g_Heap_pieces : Ex := (bndS (bnd (asPk (fldE CT "gaps" (rd 0))) (fnK tupP)) retS)
def m_Heap_pieces : Fn := runD 1 g_Heap_pieces 0
theorem ok_Heap_pieces (hC : ClsT K mg CT) (z_tuple : mg "tuple" = none) (h : HereM K mg "Heap" "pieces" "Heap.pieces" s_Heap_pieces ["self"]) : HasMD P wd K mg base 1 "Heap" "pieces" ["self"] m_Heap_pieces := h.has fun fa fd F => fnB F sc_Heap_pieces rfl fun cdv A outer s0 H0 E G hr hu px po =>
    have nd := sc_Heap_pieces.nd
    (dss_one (ds_ret (de_tupc (by rfl) z_tuple (dp_of (de_fld hC (de_rd (i := 0)))))))
abbrev s_Heap_top : Stmt := inClass (topS 3) 12
theorem sc_Heap_top : FnScope ["self"] ["self"] (defScope s_Heap_top) := ⟨rfl, rfl, rfl, by decide +kernel, rfl, by decide +kernel, by decide +kernel⟩
def g_Heap_top : Ex := (bndS (fldE CT "height" (rd 0)) retS)
def m_Heap_top : Fn := runD 1 g_Heap_top 0
theorem ok_Heap_top (hC : ClsT K mg CT) (h : HereM K mg "Heap" "top" "Heap.top" s_Heap_top ["self"]) : HasMD P wd K mg base 1 "Heap" "top" ["self"] m_Heap_top := h.has fun fa fd F => fnB F sc_Heap_top rfl fun cdv A outer s0 H0 E G hr hu px po =>
    have nd := sc_Heap_top.nd
    (dss_one (ds_ret (de_fld hC (de_rd (i := 0)))))
abbrev s_Heap_size : Stmt := inClass (topS 3) 13
theorem sc_Heap_size : FnScope ["self", "address"] ["self", "address"] (defScope s_Heap_size) := ⟨rfl, rfl, rfl, by decide +kernel, rfl, by decide +kernel, by decide +kernel⟩
def g_Heap_size : Ex := (bndS (getE (fldE CT "given" (rd 0)) (rd 1) (cst (.p (.int 0)))) retS)
def m_Heap_size : Fn := runD 2 g_Heap_size 0
theorem ok_Heap_size (hC : ClsT K mg CT) (h : HereM K mg "Heap" "size" "Heap.size" s_Heap_size ["self", "address"]) : HasMD P wd K mg base 1 "Heap" "size" ["self", "address"] m_Heap_size := h.has fun fa fd F => fnB F sc_Heap_size rfl fun cdv A outer s0 H0 E G hr hu px po =>
    have nd := sc_Heap_size.nd
    (dss_one (ds_ret (de_get2 (Nat.lt_of_le_of_lt (Nat.add_le_add_left (by decide) _) hu) (de_fld hC (de_rd (i := 0))) (de_rd (i := 1)) de_int)))
abbrev s__law_draws : Stmt := topS 5
theorem sc__law_draws : FnScope ["script", "draws", "k", "cell", "turn", "mixed"] ["script"] (defScope s__law_draws) := ⟨rfl, rfl, rfl, by decide +kernel, rfl, by decide +kernel, by decide +kernel⟩
def g__law_draws : Ex := (seqS (bndS (bnd nilA mkLin) (setL 1)) (seqS (forS (bnd (consA (bnd (consA (bnd (pk 0) (fnK lenP)) (consA (cst (.p (.int 63))) nilA)) minD) nilA) rng1) (nameG 2) (seqS (bndS (bnd (asPk (ixV 0 (rd 2))) (fnK absP)) (setV 3)) (ifS (bnd (bnd2 (rd 3) (bnd2 (cst (.p (.int 10))) (cst (.p (.int 18))) powD) geD) isBl) (forS (bnd (consA (cst (.p (.int 20))) nilA) rng1) (nameG 4) (ifS (bnd (bnd2 (rd 3) (cst (.p (.int 0))) gtD) isBl) (seqS (appV 1 (bnd2 (rd 3) (cst (.p (.int 1000))) modD)) (bndS (bnd2 (rd 3) (cst (.p (.int 1000))) fdivD) (setV 3))) skip)) (seqS (bndS (bnd2 (bnd (asPk (bnd2 (bnd2 (bnd2 (ixV 0 (rd 2)) (cst (.p (.int 48271))) mulD) (bnd2 (rd 2) (cst (.p (.int 69621))) mulD) addD) (cst (.p (.int 12345))) addD)) (fnK intP)) (cst (.p (.int 2147483647))) modD) (setV 5)) (forS (bnd (consA (cst (.p (.int 3))) nilA) rng1) (nameG 4) (seqS (bndS (bnd2 (bnd (asPk (bnd2 (bnd2 (bnd2 (rd 5) (rd 5) mulD) (bnd2 (rd 4) (cst (.p (.int 7919))) mulD) addD) (cst (.p (.int 17))) addD)) (fnK intP)) (cst (.p (.int 2147483629))) modD) (setV 5)) (appV 1 (bnd2 (rd 5) (cst (.p (.int 1000))) modD)))))))) (bndS (rd 1) retS)))
def m__law_draws : Fn := runD 1 g__law_draws 5
theorem ok__law_draws (z_abs : mg "abs" = none) (z_int : mg "int" = none) (z_len : mg "len" = none) (z_min : mg "min" = none) (z_range : mg "range" = none) (h : HereD K mg "_law_draws" s__law_draws ["script"]) : HasD P wd K mg base 1 "_law_draws" ["script"] m__law_draws := h.has fun fa fd F => fnB F sc__law_draws rfl fun cdv A outer s0 H0 E G hr hu px po =>
    have nd := sc__law_draws.nd
    (dss_cons (ds_setl (i := 1) nd rfl (by first | exact Or.inl rfl | exact Or.inr rfl) (df_lst da_nil)) (dss_cons (ds_for po rfl (di_rng1 (by rfl) z_range (da_cons (de_min2 rfl (by rfl) z_min (da_cons (de_len (by rfl) z_len (dp_var (i := 0))) (da_cons de_int da_nil))) da_nil)) (dg_name (i := 2) nd rfl (by first | exact Or.inl rfl | exact Or.inr rfl)) (dss_cons (ds_set (i := 3) nd rfl (by first | exact Or.inl rfl | exact Or.inr rfl) (de_abs (by rfl) z_abs (dp_of (de_ixV (i := 0) hu (de_rd (i := 2)))))) (dss_one (ds_if (dt_ge (de_rd (i := 3)) (de_pow de_int de_int)) (dss_one (ds_for po rfl (di_rng1 (by rfl) z_range (da_cons de_int da_nil)) (dg_name (i := 4) nd rfl (by first | exact Or.inl rfl | exact Or.inr rfl)) (dss_one (ds_if (dt_gt (de_rd (i := 3)) de_int) (dss_cons (ds_appV (i := 1) (de_mod (de_rd (i := 3)) de_int)) (dss_one (ds_set (i := 3) nd rfl (by first | exact Or.inl rfl | exact Or.inr rfl) (de_fdiv (de_rd (i := 3)) de_int)))) dss_nil)))) (dss_cons (ds_set (i := 5) nd rfl (by first | exact Or.inl rfl | exact Or.inr rfl) (de_mod (de_intc (by rfl) z_int (dp_of (de_add (de_add (de_mul (de_ixV (i := 0) hu (de_rd (i := 2))) de_int) (de_mul (de_rd (i := 2)) de_int)) de_int))) de_int)) (dss_one (ds_for po rfl (di_rng1 (by rfl) z_range (da_cons de_int da_nil)) (dg_name (i := 4) nd rfl (by first | exact Or.inl rfl | exact Or.inr rfl)) (dss_cons (ds_set (i := 5) nd rfl (by first | exact Or.inl rfl | exact Or.inr rfl) (de_mod (de_intc (by rfl) z_int (dp_of (de_add (de_add (de_mul (de_rd (i := 5)) (de_rd (i := 5))) (de_mul (de_rd (i := 4)) de_int)) de_int))) de_int)) (dss_one (ds_appV (i := 1) (de_mod (de_rd (i := 5)) de_int))))))))))) (dss_one (ds_ret (de_rd (i := 1))))))
abbrev s__law_reader : Stmt := topS 6
theorem sc__law_reader : FnScope ["script", "row", "seed"] ["script"] (defScope s__law_reader) := ⟨rfl, rfl, rfl, by decide +kernel, rfl, by decide +kernel, by decide +kernel⟩
def g__law_reader : Ex := (seqS (bndS (callP m__law_draws (consA (rd 0) nilA)) (setV 1)) (seqS (bndS (cst (.p (.int 5))) (setV 2)) (seqS (ifS (bnd (bnd2 (bnd (pk 0) (fnK lenP)) (cst (.p (.int 0))) gtD) isBl) (bndS (bnd2 (bnd (asPk (ixV 0 (bnd (cst (.p (.int 1))) negD))) (fnK absP)) (cst (.p (.int 1000003))) modD) (setV 2)) skip) (bndS (dispS ((.inr "row", (rd 1)) :: ((.inr "at", (cst (.p (.int 0)))) :: ((.inr "seed", (rd 2)) :: [])))) retS))))
def m__law_reader : Fn := runD 1 g__law_reader 2
theorem ok__law_reader (h__law_draws : HasD P wd K mg base 1 "_law_draws" ["script"] m__law_draws) (z_abs : mg "abs" = none) (z_len : mg "len" = none) (h : HereD K mg "_law_reader" s__law_reader ["script"]) : HasD P wd K mg base 2 "_law_reader" ["script"] m__law_reader := h.has fun fa fd F => fnB F sc__law_reader rfl fun cdv A outer s0 H0 E G hr hu px po =>
    have nd := sc__law_reader.nd
    (dss_cons (ds_set (i := 1) nd rfl (by first | exact Or.inl rfl | exact Or.inr rfl) (de_callP h__law_draws hr (by first | decide | omega | (simp only [Nat.add_eq, Nat.succ_eq_add_one]; omega)) px (by rfl) (da_cons (de_rd (i := 0)) da_nil))) (dss_cons (ds_set (i := 2) nd rfl (by first | exact Or.inl rfl | exact Or.inr rfl) de_int) (dss_cons (ds_if (dt_gt (de_len (by rfl) z_len (dp_var (i := 0))) de_int) (dss_one (ds_set (i := 2) nd rfl (by first | exact Or.inl rfl | exact Or.inr rfl) (de_mod (de_abs (by rfl) z_abs (dp_of (de_ixV (i := 0) hu (de_neg de_int)))) de_int))) dss_nil) (dss_one (ds_ret (de_dispS (.cons pe_str (fun _ _ => (de_rd (i := 1))) (.cons pe_str (fun _ _ => de_int) (.cons pe_str (fun _ _ => (de_rd (i := 2))) .nil)))))))))
abbrev s__law_next : Stmt := topS 7
theorem sc__law_next : FnScope ["draws", "many", "at", "mixed"] ["draws", "many"] (defScope s__law_next) := ⟨rfl, rfl, rfl, by decide +kernel, rfl, by decide +kernel, by decide +kernel⟩
def g__law_next : Ex := (seqS (bndS (ixV 0 (cst (.p (.str "at")))) (setV 2)) (seqS (putV 0 (cst (.p (.str "at"))) (bnd2 (rd 2) (cst (.p (.int 1))) addD)) (seqS (ifS (bnd (bnd2 (rd 2) (bnd (asPk (ixV 0 (cst (.p (.str "row"))))) (fnK lenP)) ltD) isBl) (bndS (bnd2 (bnd (asPk (bnd2 (ixV 0 (cst (.p (.str "row")))) (rd 2) ixD)) (fnK intP)) (rd 1) modD) retS) skip) (seqS (bndS (bnd2 (bnd (asPk (bnd2 (bnd2 (bnd2 (ixV 0 (cst (.p (.str "seed")))) (bnd2 (cst (.p (.int 17))) (rd 2) mulD) addD) (cst (.p (.int 3))) addD) (cst (.p (.int 48271))) mulD)) (fnK intP)) (cst (.p (.int 2147483647))) modD) (setV 3)) (bndS (bnd2 (bnd2 (bnd2 (bnd (asPk (bnd2 (bnd2 (rd 3) (rd 3) mulD) (rd 2) addD)) (fnK intP)) (cst (.p (.int 2147483629))) modD) (cst (.p (.int 7))) fdivD) (rd 1) modD) retS)))))
def m__law_next : Fn := runD 2 g__law_next 2
theorem ok__law_next (z_int : mg "int" = none) (z_len : mg "len" = none) (h : HereD K mg "_law_next" s__law_next ["draws", "many"]) : HasD P wd K mg base 1 "_law_next" ["draws", "many"] m__law_next := h.has fun fa fd F => fnB F sc__law_next rfl fun cdv A outer s0 H0 E G hr hu px po =>
    have nd := sc__law_next.nd
    (dss_cons (ds_set (i := 2) nd rfl (by first | exact Or.inl rfl | exact Or.inr rfl) (de_ixV (i := 0) hu de_str)) (dss_cons (ds_putV (i := 0) hu de_str (de_add (de_rd (i := 2)) de_int)) (dss_cons (ds_if (dt_lt (de_rd (i := 2)) (de_len (by rfl) z_len (dp_of (de_ixV (i := 0) hu de_str)))) (dss_one (ds_ret (de_mod (de_intc (by rfl) z_int (dp_of (de_ix hu (de_ixV (i := 0) hu de_str) (de_rd (i := 2))))) (de_rd (i := 1))))) dss_nil) (dss_cons (ds_set (i := 3) nd rfl (by first | exact Or.inl rfl | exact Or.inr rfl) (de_mod (de_intc (by rfl) z_int (dp_of (de_mul (de_add (de_add (de_ixV (i := 0) hu de_str) (de_mul de_int (de_rd (i := 2)))) de_int) de_int))) de_int)) (dss_one (ds_ret (de_mod (de_fdiv (de_mod (de_intc (by rfl) z_int (dp_of (de_add (de_mul (de_rd (i := 3)) (de_rd (i := 3))) (de_rd (i := 2))))) de_int) de_int) (de_rd (i := 1)))))))))
abbrev s__law_runs : Stmt := topS 8
theorem sc__law_runs : FnScope ["m", "found", "word"] ["m"] (defScope s__law_runs) := ⟨rfl, rfl, rfl, by decide +kernel, rfl, by decide +kernel, by decide +kernel⟩
def g__law_runs : Ex := (seqS (bndS (bnd nilA mkLin) (setL 1)) (seqS (forS (bnd (consA (cst (.p (.int 1))) (consA (ixV 0 (cst (.p (.str "top")))) nilA)) rng2) (nameG 2) (ifS (bnd (inE true (rd 2) (asPk (ixV 0 (cst (.p (.str "owner")))))) isBl) (ifS (andT (neV 1 (frz (bnd nilA mkLin))) (bnd (bnd2 (bnd2 (bnd2 (ixV 1 (bnd (cst (.p (.int 1))) negD)) (cst (.p (.int 0))) ixD) (bnd2 (ixV 1 (bnd (cst (.p (.int 1))) negD)) (cst (.p (.int 1))) ixD) addD) (rd 2) eqD) isBl)) (lsetV 1 (bnd (cst (.p (.int 1))) negD) (bnd (consA (bnd2 (ixV 1 (bnd (cst (.p (.int 1))) negD)) (cst (.p (.int 0))) ixD) (consA (bnd2 (bnd2 (ixV 1 (bnd (cst (.p (.int 1))) negD)) (cst (.p (.int 1))) ixD) (cst (.p (.int 1))) addD) nilA)) mkTup)) (appV 1 (bnd (consA (rd 2) (consA (cst (.p (.int 1))) nilA)) mkTup))) skip)) (bndS (rd 1) retS)))
def m__law_runs : Fn := runD 1 g__law_runs 2
theorem ok__law_runs (z_range : mg "range" = none) (h : HereD K mg "_law_runs" s__law_runs ["m"]) : HasD P wd K mg base 1 "_law_runs" ["m"] m__law_runs := h.has fun fa fd F => fnB F sc__law_runs rfl fun cdv A outer s0 H0 E G hr hu px po =>
    have nd := sc__law_runs.nd
    (dss_cons (ds_setl (i := 1) nd rfl (by first | exact Or.inl rfl | exact Or.inr rfl) (df_lst da_nil)) (dss_cons (ds_for po rfl (di_rng2 (by rfl) z_range (da_cons de_int (da_cons (de_ixV (i := 0) hu de_str) da_nil))) (dg_name (i := 2) nd rfl (by first | exact Or.inl rfl | exact Or.inr rfl)) (dss_one (ds_if (dt_notInP hu (de_rd (i := 2)) (dp_of (de_ixV (i := 0) hu de_str))) (dss_one (ds_if (dt_w (dw_and (dt_neV (i := 1) hu (de_frz (df_lst da_nil))) (dw_and1 (dt_eq hu (de_add (de_ix hu (de_ixV (i := 1) hu (de_neg de_int)) de_int) (de_ix hu (de_ixV (i := 1) hu (de_neg de_int)) de_int)) (de_rd (i := 2)))))) (dss_one (ds_lsetV (i := 1) (de_neg de_int) (de_tup (da_cons (de_ix hu (de_ixV (i := 1) hu (de_neg de_int)) de_int) (da_cons (de_add (de_ix hu (de_ixV (i := 1) hu (de_neg de_int)) de_int) de_int) da_nil))))) (dss_one (ds_appV (i := 1) (de_tup (da_cons (de_rd (i := 2)) (da_cons de_int da_nil))))))) dss_nil))) (dss_one (ds_ret (de_rd (i := 1))))))
abbrev s__law_fits : Stmt := topS 9
theorem sc__law_fits : FnScope ["m", "size", "run"] ["m", "size"] (defScope s__law_fits) := ⟨rfl, rfl, rfl, by decide +kernel, rfl, by decide +kernel, by decide +kernel⟩
def g__law_fits : Ex := (bndS (frz (lcF (bnd (callS m__law_runs (consA (rd 0) nilA)) walkR) [2] (nameG 2) (bnd (bnd2 (ixV 2 (cst (.p (.int 1)))) (rd 1) geD) isBl) (rd 2))) retS)
def m__law_fits : Fn := runD 2 g__law_fits 1
theorem ok__law_fits (h__law_runs : HasD P wd K mg base 1 "_law_runs" ["m"] m__law_runs) (h : HereD K mg "_law_fits" s__law_fits ["m", "size"]) : HasD P wd K mg base 2 "_law_fits" ["m", "size"] m__law_fits := h.has fun fa fd F => fnB F sc__law_fits rfl fun cdv A outer s0 H0 E G hr hu px po =>
    have nd := sc__law_fits.nd
    (dss_one (ds_ret (de_frz (df_lc (own := [("run", 2)]) rfl nd (di_seq (de_callS h__law_runs hr (by first | decide | omega | (simp only [Nat.add_eq, Nat.succ_eq_add_one]; omega)) px (by rfl) (da_cons (de_rd (i := 0)) da_nil))) (blkOk_by (N := ["m", "size", "run"]) (sc := defScope s__law_fits) (by decide +kernel)) (fun _ _ _ _ _ => (pg_name (i := 2) nd rfl (Or.inl rfl))) (raw_name (by decide)) (fun _ _ _ _ _ _ eG => (dts_one (dt_ge (de_ixV (i := 2) hu de_int) (de_rd (i := 1))))) (fun _ _ _ _ _ _ eG => (de_rd (i := 2)))))))
abbrev s__law_chosen : Stmt := topS 10
theorem sc__law_chosen : FnScope ["m", "policy", "size", "runs", "address", "many", "run"] ["m", "policy", "size"] (defScope s__law_chosen) := ⟨rfl, rfl, rfl, by decide +kernel, rfl, by decide +kernel, by decide +kernel⟩
def g__law_chosen : Ex := (seqS (bndS (callS m__law_fits (consA (rd 0) (consA (rd 2) nilA))) (setV 3)) (seqS (ifS (orT (bnd (bnd2 (rd 1) (cst (.p (.str "bump"))) eqD) isBl) (bnd (bnd2 (rd 3) (frz (bnd nilA mkLin)) eqD) isBl)) (bndS (ixV 0 (cst (.p (.str "top")))) retS) skip) (seqS (ifS (bnd (bnd2 (rd 1) (cst (.p (.str "best"))) eqD) isBl) (bndS (bnd2 (bnd2 (frz (bnd (asPk (frz (lcF (bnd (rd 3) walkR) [4, 5] (tupG 2 (namesG [4, 5])) yesT (bnd (consA (rd 5) (consA (rd 4) nilA)) mkTup)))) sortPF)) (cst (.p (.int 0))) ixD) (cst (.p (.int 1))) ixD) retS) skip) (seqS (ifS (bnd (bnd2 (rd 1) (cst (.p (.str "next"))) eqD) isBl) (bndS (bnd2 (frz (lcF (bnd (rd 3) walkR) [6] (nameG 6) (bnd (bnd2 (ixV 6 (cst (.p (.int 0)))) (ixV 0 (cst (.p (.str "last")))) geD) isBl) (rd 6))) (rd 3) addD) (setV 3)) skip) (bndS (bnd2 (ixV 3 (cst (.p (.int 0)))) (cst (.p (.int 0))) ixD) retS)))))
def m__law_chosen : Fn := runD 3 g__law_chosen 4
theorem ok__law_chosen (h__law_fits : HasD P wd K mg base 2 "_law_fits" ["m", "size"] m__law_fits) (z_sorted : mg "sorted" = none) (h : HereD K mg "_law_chosen" s__law_chosen ["m", "policy", "size"]) : HasD P wd K mg base 3 "_law_chosen" ["m", "policy", "size"] m__law_chosen := h.has fun fa fd F => fnB F sc__law_chosen rfl fun cdv A outer s0 H0 E G hr hu px po =>
    have nd := sc__law_chosen.nd
    (dss_cons (ds_set (i := 3) nd rfl (by first | exact Or.inl rfl | exact Or.inr rfl) (de_callS h__law_fits hr (by first | decide | omega | (simp only [Nat.add_eq, Nat.succ_eq_add_one]; omega)) px (by rfl) (da_cons (de_rd (i := 0)) (da_cons (de_rd (i := 2)) da_nil)))) (dss_cons (ds_if (dt_w (dw_or (dt_eq hu (de_rd (i := 1)) de_str) (dw_or1 (dt_eq hu (de_rd (i := 3)) (de_frz (df_lst da_nil)))))) (dss_one (ds_ret (de_ixV (i := 0) hu de_str))) dss_nil) (dss_cons (ds_if (dt_eq hu (de_rd (i := 1)) de_str) (dss_one (ds_ret (de_ix hu (de_ix hu (de_frz (df_sortP (by rfl) z_sorted (dp_of (de_frz (df_lc (own := [("address", 4), ("many", 5)]) rfl nd (di_seq (de_rd (i := 3))) (blkOk_by (N := ["m", "policy", "size", "runs", "address", "many", "run"]) (sc := defScope s__law_chosen) (by decide +kernel)) (fun _ _ _ _ _ => (pg_tup rfl (pgs_cons (pg_name (i := 4) nd rfl (Or.inl rfl)) (pgs_cons (pg_name (i := 5) nd rfl (Or.inl rfl)) pgs_nil)))) (raw_tup (is := [4, 5]) (by decide)) (fun _ _ _ _ _ _ eG => dts_nil) (fun _ _ _ _ _ _ eG => (de_tup (da_cons (de_rd (i := 5)) (da_cons (de_rd (i := 4)) da_nil))))))))) de_int) de_int))) dss_nil) (dss_cons (ds_if (dt_eq hu (de_rd (i := 1)) de_str) (dss_one (ds_set (i := 3) nd rfl (by first | exact Or.inl rfl | exact Or.inr rfl) (de_add (de_frz (df_lc (own := [("run", 6)]) rfl nd (di_seq (de_rd (i := 3))) (blkOk_by (N := ["m", "policy", "size", "runs", "address", "many", "run"]) (sc := defScope s__law_chosen) (by decide +kernel)) (fun _ _ _ _ _ => (pg_name (i := 6) nd rfl (Or.inl rfl))) (raw_name (by decide)) (fun _ _ _ _ _ _ eG => (dts_one (dt_ge (de_ixV (i := 6) hu de_int) (de_ixV (i := 0) hu de_str)))) (fun _ _ _ _ _ _ eG => (de_rd (i := 6))))) (de_rd (i := 3))))) dss_nil) (dss_one (ds_ret (de_ix hu (de_ixV (i := 3) hu de_int) de_int)))))))
abbrev s__law_take : Stmt := topS 11
theorem sc__law_take : FnScope ["m", "allocator", "many", "policy", "unit", "size", "address", "k"] ["m", "allocator", "many"] (defScope s__law_take) := ⟨rfl, rfl, rfl, by decide +kernel, rfl, by decide +kernel, by decide +kernel⟩
def g__law_take : Ex := (seqS (asgS (rd 1) (tupG 2 (consG (nameG 3) (consG (nameG 4) nilG)))) (seqS (bndS (rd 4) (setV 5)) (seqS (whileS (bnd (bnd2 (rd 5) (rd 2) ltD) isBl) (bndS (bnd2 (rd 5) (rd 4) addD) (setV 5)) fuel) (seqS (bndS (callS m__law_chosen (consA (rd 0) (consA (rd 3) (consA (rd 5) nilA)))) (setV 6)) (seqS (forS (bnd (consA (rd 5) nilA) rng1) (nameG 7) (asgS (rd 6) (subG (ixV 0 (cst (.p (.str "owner")))) (bnd2 (rd 6) (rd 7) addD)))) (seqS (asgS (rd 5) (subG (ixV 0 (cst (.p (.str "sizes")))) (rd 6))) (seqS (putV 0 (cst (.p (.str "top"))) (bnd (consA (ixV 0 (cst (.p (.str "top")))) (consA (bnd2 (rd 6) (rd 5) addD) nilA)) maxD)) (seqS (putV 0 (cst (.p (.str "last"))) (bnd2 (rd 6) (rd 5) addD)) (bndS (rd 6) retS)))))))))
def m__law_take : Fn := runD 3 g__law_take 5
theorem ok__law_take (h__law_chosen : HasD P wd K mg base 3 "_law_chosen" ["m", "policy", "size"] m__law_chosen) (z_max : mg "max" = none) (z_range : mg "range" = none) (h : HereD K mg "_law_take" s__law_take ["m", "allocator", "many"]) : HasD P wd K mg base 4 "_law_take" ["m", "allocator", "many"] m__law_take := h.has fun fa fd F => fnB F sc__law_take rfl fun cdv A outer s0 H0 E G hr hu px po =>
    have nd := sc__law_take.nd
    (dss_cons (ds_asg (de_rd (i := 1)) (dg_tup rfl (dgs_cons (dg_name (i := 3) nd rfl (by first | exact Or.inl rfl | exact Or.inr rfl)) (dgs_cons (dg_name (i := 4) nd rfl (by first | exact Or.inl rfl | exact Or.inr rfl)) dgs_nil)))) (dss_cons (ds_set (i := 5) nd rfl (by first | exact Or.inl rfl | exact Or.inr rfl) (de_rd (i := 4))) (dss_cons (ds_while fuel po (dt_lt (de_rd (i := 5)) (de_rd (i := 2))) (dss_one (ds_set (i := 5) nd rfl (by first | exact Or.inl rfl | exact Or.inr rfl) (de_add (de_rd (i := 5)) (de_rd (i := 4)))))) (dss_cons (ds_set (i := 6) nd rfl (by first | exact Or.inl rfl | exact Or.inr rfl) (de_callS h__law_chosen hr (by first | decide | omega | (simp only [Nat.add_eq, Nat.succ_eq_add_one]; omega)) px (by rfl) (da_cons (de_rd (i := 0)) (da_cons (de_rd (i := 3)) (da_cons (de_rd (i := 5)) da_nil))))) (dss_cons (ds_for po rfl (di_rng1 (by rfl) z_range (da_cons (de_rd (i := 5)) da_nil)) (dg_name (i := 7) nd rfl (by first | exact Or.inl rfl | exact Or.inr rfl)) (dss_one (ds_asg (de_rd (i := 6)) (dg_sub (Nat.lt_of_le_of_lt (Nat.add_le_add_left (by decide) _) hu) (de_ixV (i := 0) hu de_str) (de_add (de_rd (i := 6)) (de_rd (i := 7))))))) (dss_cons (ds_asg (de_rd (i := 5)) (dg_sub (Nat.lt_of_le_of_lt (Nat.add_le_add_left (by decide) _) hu) (de_ixV (i := 0) hu de_str) (de_rd (i := 6)))) (dss_cons (ds_putV (i := 0) hu de_str (de_max2 rfl (by rfl) z_max (da_cons (de_ixV (i := 0) hu de_str) (da_cons (de_add (de_rd (i := 6)) (de_rd (i := 5))) da_nil)))) (dss_cons (ds_putV (i := 0) hu de_str (de_add (de_rd (i := 6)) (de_rd (i := 5)))) (dss_one (ds_ret (de_rd (i := 6))))))))))))
abbrev s__law_give : Stmt := topS 12
theorem sc__law_give : FnScope ["m", "allocator", "address", "k"] ["m", "allocator", "address"] (defScope s__law_give) := ⟨rfl, rfl, rfl, by decide +kernel, rfl, by decide +kernel, by decide +kernel⟩
def g__law_give : Ex := (seqS (ifS (bnd (inE true (rd 2) (asPk (ixV 0 (cst (.p (.str "sizes")))))) isBl) (bndS (cst (.p (.bl false))) retS) skip) (seqS (forS (bnd (consA (bnd2 (ixV 0 (cst (.p (.str "sizes")))) (rd 2) ixD) nilA) rng1) (nameG 3) (bndS (popE (ixV 0 (cst (.p (.str "owner")))) (bnd2 (rd 2) (rd 3) addD)) fun _ => skip)) (seqS (bndS (popE (ixV 0 (cst (.p (.str "sizes")))) (rd 2)) fun _ => skip) (seqS (ifS (bnd (bnd2 (ixV 1 (cst (.p (.int 0)))) (cst (.p (.str "bump"))) neD) isBl) (whileS (andT (bnd (bnd2 (ixV 0 (cst (.p (.str "top")))) (cst (.p (.int 1))) gtD) isBl) (bnd (inE true (bnd2 (ixV 0 (cst (.p (.str "top")))) (cst (.p (.int 1))) subD) (asPk (ixV 0 (cst (.p (.str "owner")))))) isBl)) (putV 0 (cst (.p (.str "top"))) (bnd2 (ixV 0 (cst (.p (.str "top")))) (cst (.p (.int 1))) subD)) fuel) skip) (bndS (cst (.p (.bl true))) retS)))))
def m__law_give : Fn := runD 3 g__law_give 1
theorem ok__law_give (z_range : mg "range" = none) (h : HereD K mg "_law_give" s__law_give ["m", "allocator", "address"]) : HasD P wd K mg base 1 "_law_give" ["m", "allocator", "address"] m__law_give := h.has fun fa fd F => fnB F sc__law_give rfl fun cdv A outer s0 H0 E G hr hu px po =>
    have nd := sc__law_give.nd
    (dss_cons (ds_if (dt_notInP hu (de_rd (i := 2)) (dp_of (de_ixV (i := 0) hu de_str))) (dss_one (ds_ret de_bl)) dss_nil) (dss_cons (ds_for po rfl (di_rng1 (by rfl) z_range (da_cons (de_ix hu (de_ixV (i := 0) hu de_str) (de_rd (i := 2))) da_nil)) (dg_name (i := 3) nd rfl (by first | exact Or.inl rfl | exact Or.inr rfl)) (dss_one (ds_expr (de_popK (de_ixV (i := 0) hu de_str) (de_add (de_rd (i := 2)) (de_rd (i := 3))))))) (dss_cons (ds_expr (de_popK (de_ixV (i := 0) hu de_str) (de_rd (i := 2)))) (dss_cons (ds_if (dt_ne hu (de_ixV (i := 1) hu de_int) de_str) (dss_one (ds_while fuel po (dt_w (dw_and (dt_gt (de_ixV (i := 0) hu de_str) de_int) (dw_and1 (dt_notInP hu (de_sub (de_ixV (i := 0) hu de_str) de_int) (dp_of (de_ixV (i := 0) hu de_str)))))) (dss_one (ds_putV (i := 0) hu de_str (de_sub (de_ixV (i := 0) hu de_str) de_int))))) dss_nil) (dss_one (ds_ret de_bl))))))
abbrev s__law_as_told : Stmt := topS 13
theorem sc__law_as_told : FnScope ["heap", "m", "blocks", "address", "size"] ["heap", "m"] (defScope s__law_as_told) := ⟨rfl, rfl, rfl, by decide +kernel, rfl, by decide +kernel, by decide +kernel⟩
def g__law_as_told : Ex := (seqS (bndS (bnd (asPk (frz (lcF (bnd (frz (bnd (asPk (ixV 1 (cst (.p (.str "sizes"))))) sortDF)) walkR) [3] (nameG 3) yesT (bnd (consA (rd 3) (consA (bnd2 (ixV 1 (cst (.p (.str "sizes")))) (rd 3) ixD) nilA)) mkTup)))) (fnK tupP)) (setV 2)) (seqS (ifS (orT (bnd (bnd2 (methE "Heap" "blocks" m_Heap_blocks (rd 0) nilA) (rd 2) neD) isBl) (orT (bnd (bnd2 (methE "Heap" "pieces" m_Heap_pieces (rd 0) nilA) (bnd (asPk (callS m__law_runs (consA (rd 1) nilA))) (fnK tupP)) neD) isBl) (bnd (bnd2 (methE "Heap" "top" m_Heap_top (rd 0) nilA) (ixV 1 (cst (.p (.str "top")))) neD) isBl))) (bndS (cst (.p (.bl false))) retS) skip) (bndS (bnd (asPk (frz (lcF (bnd (rd 2) walkR) [3, 4] (tupG 2 (namesG [3, 4])) yesT (bnd2 (methE "Heap" "size" m_Heap_size (rd 0) (consA (rd 3) nilA)) (rd 4) eqD)))) (fnK allP)) retS)))
def m__law_as_told : Fn := runD 2 g__law_as_told 3
theorem ok__law_as_told (h_Heap_blocks : HasMD P wd K mg base 1 "Heap" "blocks" ["self"] m_Heap_blocks) (h_Heap_pieces : HasMD P wd K mg base 1 "Heap" "pieces" ["self"] m_Heap_pieces) (h_Heap_size : HasMD P wd K mg base 1 "Heap" "size" ["self", "address"] m_Heap_size) (h_Heap_top : HasMD P wd K mg base 1 "Heap" "top" ["self"] m_Heap_top) (h__law_runs : HasD P wd K mg base 1 "_law_runs" ["m"] m__law_runs) (z_all : mg "all" = none) (z_sorted : mg "sorted" = none) (z_tuple : mg "tuple" = none) (h : HereD K mg "_law_as_told" s__law_as_told ["heap", "m"]) : HasD P wd K mg base 2 "_law_as_told" ["heap", "m"] m__law_as_told := h.has fun fa fd F => fnB F sc__law_as_told rfl fun cdv A outer s0 H0 E G hr hu px po =>
    have nd := sc__law_as_told.nd
    (dss_cons (ds_set (i := 2) nd rfl (by first | exact Or.inl rfl | exact Or.inr rfl) (de_tupc (by rfl) z_tuple (dp_of (de_frz (df_lc (own := [("address", 3)]) rfl nd (di_seq (de_frz (df_sortD rfl (by rfl) z_sorted (dp_of (de_ixV (i := 1) hu de_str))))) (blkOk_by (N := ["heap", "m", "blocks", "address", "size"]) (sc := defScope s__law_as_told) (by decide +kernel)) (fun _ _ _ _ _ => (pg_name (i := 3) nd rfl (Or.inl rfl))) (raw_name (by decide)) (fun _ _ _ _ _ _ eG => dts_nil) (fun _ _ _ _ _ _ eG => (de_tup (da_cons (de_rd (i := 3)) (da_cons (de_ix hu (de_ixV (i := 1) hu de_str) (de_rd (i := 3))) da_nil))))))))) (dss_cons (ds_if (dt_w (dw_or (dt_ne hu (de_meth0 h_Heap_blocks hr (by first | decide | omega | (simp only [Nat.add_eq, Nat.succ_eq_add_one]; omega)) px (de_rd (i := 0))) (de_rd (i := 2))) (dw_or (dt_ne hu (de_meth0 h_Heap_pieces hr (by first | decide | omega | (simp only [Nat.add_eq, Nat.succ_eq_add_one]; omega)) px (de_rd (i := 0))) (de_tupc (by rfl) z_tuple (dp_of (de_callS h__law_runs hr (by first | decide | omega | (simp only [Nat.add_eq, Nat.succ_eq_add_one]; omega)) px (by rfl) (da_cons (de_rd (i := 1)) da_nil))))) (dw_or1 (dt_ne hu (de_meth0 h_Heap_top hr (by first | decide | omega | (simp only [Nat.add_eq, Nat.succ_eq_add_one]; omega)) px (de_rd (i := 0))) (de_ixV (i := 1) hu de_str)))))) (dss_one (ds_ret de_bl)) dss_nil) (dss_one (ds_ret (de_all rfl (by rfl) z_all (dp_of (de_frz (df_lc (own := [("address", 3), ("size", 4)]) rfl nd (di_seq (de_rd (i := 2))) (blkOk_by (N := ["heap", "m", "blocks", "address", "size"]) (sc := defScope s__law_as_told) (by decide +kernel)) (fun _ _ _ _ _ => (pg_tup rfl (pgs_cons (pg_name (i := 3) nd rfl (Or.inl rfl)) (pgs_cons (pg_name (i := 4) nd rfl (Or.inl rfl)) pgs_nil)))) (raw_tup (is := [3, 4]) (by decide)) (fun _ _ _ _ _ _ eG => dts_nil) (fun _ _ _ _ _ _ eG => (de_eq hu (de_meth h_Heap_size hr (by first | decide | omega | (simp only [Nat.add_eq, Nat.succ_eq_add_one]; omega)) (by rw [eG]; exact passL) (de_rd (i := 0)) (da_cons (de_rd (i := 3)) da_nil)) (de_rd (i := 4))))))))))))
abbrev s__law_deed : Stmt := topS 14
theorem sc__law_deed : FnScope ["draws", "heap", "m", "allocator", "held", "pick", "many", "address"] ["draws", "heap", "m", "allocator"] (defScope s__law_deed) := ⟨rfl, rfl, rfl, by decide +kernel, rfl, by decide +kernel, by decide +kernel⟩
def g__law_deed : Ex := (seqS (bndS (frz (bnd (asPk (ixV 2 (cst (.p (.str "sizes"))))) sortDF)) (setV 4)) (seqS (bndS (callS m__law_next (consA (rd 0) (consA (cst (.p (.int 10))) nilA))) (setV 5)) (seqS (ifS (orT (bnd (bnd2 (rd 5) (cst (.p (.int 6))) ltD) isBl) (bnd (bnd2 (rd 4) (frz (bnd nilA mkLin)) eqD) isBl)) (seqS (bndS (bnd2 (frz (bnd (consA (callS m__law_next (consA (rd 0) (consA (cst (.p (.int 4))) nilA))) (consA (callS m__law_next (consA (rd 0) (consA (cst (.p (.int 12))) nilA))) (consA (callS m__law_next (consA (rd 0) (consA (cst (.p (.int 41))) nilA))) nilA))) mkLin)) (callS m__law_next (consA (rd 0) (consA (cst (.p (.int 3))) nilA))) ixD) (setV 6)) (bndS (bnd2 (methE "Heap" "take" m_Heap_take (rd 1) (consA (rd 6) nilA)) (callS m__law_take (consA (rd 2) (consA (rd 3) (consA (rd 6) nilA)))) eqD) retS)) skip) (seqS (bndS (ixV 4 (callS m__law_next (consA (rd 0) (consA (bnd (pk 4) (fnK lenP)) nilA)))) (setV 7)) (seqS (ifS (bnd (bnd2 (rd 5) (cst (.p (.int 9))) eqD) isBl) (bndS (bnd2 (bnd2 (rd 7) (cst (.p (.int 1))) addD) (callS m__law_next (consA (rd 0) (consA (cst (.p (.int 9))) nilA))) addD) (setV 7)) skip) (bndS (bnd2 (methE "Heap" "give" m_Heap_give (rd 1) (consA (rd 7) nilA)) (callS m__law_give (consA (rd 2) (consA (rd 3) (consA (rd 7) nilA)))) eqD) retS))))))
def m__law_deed : Fn := runD 4 g__law_deed 4
theorem ok__law_deed (h_Heap_give : HasMD P wd K mg base 2 "Heap" "give" ["self", "address"] m_Heap_give) (h_Heap_take : HasMD P wd K mg base 3 "Heap" "take" ["self", "many"] m_Heap_take) (h__law_give : HasD P wd K mg base 1 "_law_give" ["m", "allocator", "address"] m__law_give) (h__law_next : HasD P wd K mg base 1 "_law_next" ["draws", "many"] m__law_next) (h__law_take : HasD P wd K mg base 4 "_law_take" ["m", "allocator", "many"] m__law_take) (z_len : mg "len" = none) (z_sorted : mg "sorted" = none) (h : HereD K mg "_law_deed" s__law_deed ["draws", "heap", "m", "allocator"]) : HasD P wd K mg base 5 "_law_deed" ["draws", "heap", "m", "allocator"] m__law_deed := h.has fun fa fd F => fnB F sc__law_deed rfl fun cdv A outer s0 H0 E G hr hu px po =>
    have nd := sc__law_deed.nd
    (dss_cons (ds_set (i := 4) nd rfl (by first | exact Or.inl rfl | exact Or.inr rfl) (de_frz (df_sortD rfl (by rfl) z_sorted (dp_of (de_ixV (i := 2) hu de_str))))) (dss_cons (ds_set (i := 5) nd rfl (by first | exact Or.inl rfl | exact Or.inr rfl) (de_callS h__law_next hr (by first | decide | omega | (simp only [Nat.add_eq, Nat.succ_eq_add_one]; omega)) px (by rfl) (da_cons (de_rd (i := 0)) (da_cons de_int da_nil)))) (dss_cons (ds_if (dt_w (dw_or (dt_lt (de_rd (i := 5)) de_int) (dw_or1 (dt_eq hu (de_rd (i := 4)) (de_frz (df_lst da_nil)))))) (dss_cons (ds_set (i := 6) nd rfl (by first | exact Or.inl rfl | exact Or.inr rfl) (de_ix hu (de_frz (df_lst (da_cons (de_callS h__law_next hr (by first | decide | omega | (simp only [Nat.add_eq, Nat.succ_eq_add_one]; omega)) px (by rfl) (da_cons (de_rd (i := 0)) (da_cons de_int da_nil))) (da_cons (de_callS h__law_next hr (by first | decide | omega | (simp only [Nat.add_eq, Nat.succ_eq_add_one]; omega)) px (by rfl) (da_cons (de_rd (i := 0)) (da_cons de_int da_nil))) (da_cons (de_callS h__law_next hr (by first | decide | omega | (simp only [Nat.add_eq, Nat.succ_eq_add_one]; omega)) px (by rfl) (da_cons (de_rd (i := 0)) (da_cons de_int da_nil))) da_nil))))) (de_callS h__law_next hr (by first | decide | omega | (simp only [Nat.add_eq, Nat.succ_eq_add_one]; omega)) px (by rfl) (da_cons (de_rd (i := 0)) (da_cons de_int da_nil))))) (dss_one (ds_ret (de_eq hu (de_meth h_Heap_take hr (by first | decide | omega | (simp only [Nat.add_eq, Nat.succ_eq_add_one]; omega)) px (de_rd (i := 1)) (da_cons (de_rd (i := 6)) da_nil)) (de_callS h__law_take hr (by first | decide | omega | (simp only [Nat.add_eq, Nat.succ_eq_add_one]; omega)) px (by rfl) (da_cons (de_rd (i := 2)) (da_cons (de_rd (i := 3)) (da_cons (de_rd (i := 6)) da_nil)))))))) dss_nil) (dss_cons (ds_set (i := 7) nd rfl (by first | exact Or.inl rfl | exact Or.inr rfl) (de_ixV (i := 4) hu (de_callS h__law_next hr (by first | decide | omega | (simp only [Nat.add_eq, Nat.succ_eq_add_one]; omega)) px (by rfl) (da_cons (de_rd (i := 0)) (da_cons (de_len (by rfl) z_len (dp_var (i := 4))) da_nil))))) (dss_cons (ds_if (dt_eq hu (de_rd (i := 5)) de_int) (dss_one (ds_set (i := 7) nd rfl (by first | exact Or.inl rfl | exact Or.inr rfl) (de_add (de_add (de_rd (i := 7)) de_int) (de_callS h__law_next hr (by first | decide | omega | (simp only [Nat.add_eq, Nat.succ_eq_add_one]; omega)) px (by rfl) (da_cons (de_rd (i := 0)) (da_cons de_int da_nil)))))) dss_nil) (dss_one (ds_ret (de_eq hu (de_meth h_Heap_give hr (by first | decide | omega | (simp only [Nat.add_eq, Nat.succ_eq_add_one]; omega)) px (de_rd (i := 1)) (da_cons (de_rd (i := 7)) da_nil)) (de_callS h__law_give hr (by first | decide | omega | (simp only [Nat.add_eq, Nat.succ_eq_add_one]; omega)) px (by rfl) (da_cons (de_rd (i := 2)) (da_cons (de_rd (i := 3)) (da_cons (de_rd (i := 7)) da_nil))))))))))))
abbrev s_law : Stmt := topS 15
theorem sc_law : FnScope ["script", "draws", "allocator", "heap", "other", "m", "turn", "address"] ["script"] (defScope s_law) := ⟨rfl, rfl, rfl, by decide +kernel, rfl, by decide +kernel, by decide +kernel⟩
def g_law : Ex := (seqS (bndS (callS m__law_reader (consA (rd 0) nilA)) (setV 1)) (seqS (bndS (bnd (consA (bnd2 (frz (bnd (consA (cst (.p (.str "first"))) (consA (cst (.p (.str "best"))) (consA (cst (.p (.str "next"))) (consA (cst (.p (.str "bump"))) nilA)))) mkLin)) (callS m__law_next (consA (rd 1) (consA (cst (.p (.int 4))) nilA))) ixD) (consA (bnd2 (cst (.p (.int 1))) (callS m__law_next (consA (rd 1) (consA (cst (.p (.int 4))) nilA))) shlD) nilA)) mkTup) (setV 2)) (seqS (bndS (makeE "Heap" m_Heap___init__ (consA (rd 2) nilA)) (setV 3)) (seqS (bndS (makeE "Heap" m_Heap___init__ (consA (rd 2) nilA)) (setV 4)) (seqS (bndS (dispS ((.inr "owner", (alloc (.dic []))) :: ((.inr "sizes", (alloc (.dic []))) :: ((.inr "top", (cst (.p (.int 1)))) :: ((.inr "last", (cst (.p (.int 1)))) :: []))))) (setV 5)) (seqS (forS (bnd (consA (bnd2 (cst (.p (.int 5))) (callS m__law_next (consA (rd 1) (consA (cst (.p (.int 66))) nilA))) addD) nilA) rng1) (nameG 6) (ifS (orT (notT (bnd (asPk (callS m__law_deed (consA (rd 1) (consA (rd 3) (consA (rd 5) (consA (rd 2) nilA)))))) truPR)) (notT (bnd (asPk (callS m__law_as_told (consA (rd 3) (consA (rd 5) nilA)))) truPR))) (bndS (cst (.p (.bl false))) retS) skip)) (seqS (forS (bnd (frz (bnd (asPk (ixV 5 (cst (.p (.str "sizes"))))) listDF)) walkR) (nameG 7) (ifS (orT (bnd (bnd2 (methE "Heap" "give" m_Heap_give (rd 3) (consA (rd 7) nilA)) (cst (.p (.bl true))) isntD) isBl) (notT (bnd (asPk (callS m__law_give (consA (rd 5) (consA (rd 2) (consA (rd 7) nilA))))) truPR))) (bndS (cst (.p (.bl false))) retS) skip)) (seqS (ifS (orT (bnd (bnd2 (methE "Heap" "blocks" m_Heap_blocks (rd 3) nilA) (bnd nilA mkTup) neD) isBl) (andT (bnd (bnd2 (ixV 2 (cst (.p (.int 0)))) (cst (.p (.str "bump"))) neD) isBl) (bnd (bnd2 (methE "Heap" "top" m_Heap_top (rd 3) nilA) (cst (.p (.int 1))) neD) isBl))) (bndS (cst (.p (.bl false))) retS) skip) (bndS (andE (bnd2 (methE "Heap" "top" m_Heap_top (rd 4) nilA) (cst (.p (.int 1))) eqD) (andE (bnd2 (methE "Heap" "pieces" m_Heap_pieces (rd 4) nilA) (bnd nilA mkTup) eqD) (bnd2 (methE "Heap" "give" m_Heap_give (rd 4) (consA (cst (.p (.int 1))) nilA)) (cst (.p (.bl false))) isD))) retS)))))))))
def m_law : Fn := runD 1 g_law 7
theorem ok_law_at (h_Heap___init__ : HasMk P wd K mg base 1 "Heap" ["self", "allocator"] m_Heap___init__) (h_Heap_blocks : HasMD P wd K mg base 1 "Heap" "blocks" ["self"] m_Heap_blocks) (h_Heap_give : HasMD P wd K mg base 2 "Heap" "give" ["self", "address"] m_Heap_give) (h_Heap_pieces : HasMD P wd K mg base 1 "Heap" "pieces" ["self"] m_Heap_pieces) (h_Heap_top : HasMD P wd K mg base 1 "Heap" "top" ["self"] m_Heap_top) (h__law_as_told : HasD P wd K mg base 2 "_law_as_told" ["heap", "m"] m__law_as_told) (h__law_deed : HasD P wd K mg base 5 "_law_deed" ["draws", "heap", "m", "allocator"] m__law_deed) (h__law_give : HasD P wd K mg base 1 "_law_give" ["m", "allocator", "address"] m__law_give) (h__law_next : HasD P wd K mg base 1 "_law_next" ["draws", "many"] m__law_next) (h__law_reader : HasD P wd K mg base 2 "_law_reader" ["script"] m__law_reader) (z_list : mg "list" = none) (z_range : mg "range" = none) {fa : Addr} {fd : FuncData} (F : Fun K "law" "law" s_law fa fd) : FnOk P wd K mg base (L2.CX P wd) 6 fa fd ["script"] (spD K mg m_law) := fnB F sc_law rfl fun cdv A outer s0 H0 E G hr hu px po =>
    have nd := sc_law.nd
    (dss_cons (ds_set (i := 1) nd rfl (by first | exact Or.inl rfl | exact Or.inr rfl) (de_callS h__law_reader hr (by first | decide | omega | (simp only [Nat.add_eq, Nat.succ_eq_add_one]; omega)) px (by rfl) (da_cons (de_rd (i := 0)) da_nil))) (dss_cons (ds_set (i := 2) nd rfl (by first | exact Or.inl rfl | exact Or.inr rfl) (de_tup (da_cons (de_ix hu (de_frz (df_lst (da_cons de_str (da_cons de_str (da_cons de_str (da_cons de_str da_nil)))))) (de_callS h__law_next hr (by first | decide | omega | (simp only [Nat.add_eq, Nat.succ_eq_add_one]; omega)) px (by rfl) (da_cons (de_rd (i := 1)) (da_cons de_int da_nil)))) (da_cons (de_shl de_int (de_callS h__law_next hr (by first | decide | omega | (simp only [Nat.add_eq, Nat.succ_eq_add_one]; omega)) px (by rfl) (da_cons (de_rd (i := 1)) (da_cons de_int da_nil)))) da_nil)))) (dss_cons (ds_set (i := 3) nd rfl (by first | exact Or.inl rfl | exact Or.inr rfl) (de_make h_Heap___init__ hr (by first | decide | omega | (simp only [Nat.add_eq, Nat.succ_eq_add_one]; omega)) px (by rfl) (da_cons (de_rd (i := 2)) da_nil))) (dss_cons (ds_set (i := 4) nd rfl (by first | exact Or.inl rfl | exact Or.inr rfl) (de_make h_Heap___init__ hr (by first | decide | omega | (simp only [Nat.add_eq, Nat.succ_eq_add_one]; omega)) px (by rfl) (da_cons (de_rd (i := 2)) da_nil))) (dss_cons (ds_set (i := 5) nd rfl (by first | exact Or.inl rfl | exact Or.inr rfl) (de_dispS (.cons pe_str (fun _ _ => de_dicS) (.cons pe_str (fun _ _ => de_dicS) (.cons pe_str (fun _ _ => de_int) (.cons pe_str (fun _ _ => de_int) .nil)))))) (dss_cons (ds_for po rfl (di_rng1 (by rfl) z_range (da_cons (de_add de_int (de_callS h__law_next hr (by first | decide | omega | (simp only [Nat.add_eq, Nat.succ_eq_add_one]; omega)) px (by rfl) (da_cons (de_rd (i := 1)) (da_cons de_int da_nil)))) da_nil)) (dg_name (i := 6) nd rfl (by first | exact Or.inl rfl | exact Or.inr rfl)) (dss_one (ds_if (dt_w (dw_or (dt_not (dt_truP (dp_of (de_callS h__law_deed hr (by first | decide | omega | (simp only [Nat.add_eq, Nat.succ_eq_add_one]; omega)) px (by rfl) (da_cons (de_rd (i := 1)) (da_cons (de_rd (i := 3)) (da_cons (de_rd (i := 5)) (da_cons (de_rd (i := 2)) da_nil)))))))) (dw_or1 (dt_not (dt_truP (dp_of (de_callS h__law_as_told hr (by first | decide | omega | (simp only [Nat.add_eq, Nat.succ_eq_add_one]; omega)) px (by rfl) (da_cons (de_rd (i := 3)) (da_cons (de_rd (i := 5)) da_nil))))))))) (dss_one (ds_ret de_bl)) dss_nil))) (dss_cons (ds_for po rfl (di_seq (de_frz (df_listD rfl (by rfl) z_list (dp_of (de_ixV (i := 5) hu de_str))))) (dg_name (i := 7) nd rfl (by first | exact Or.inl rfl | exact Or.inr rfl)) (dss_one (ds_if (dt_w (dw_or (dt_isnt (de_meth h_Heap_give hr (by first | decide | omega | (simp only [Nat.add_eq, Nat.succ_eq_add_one]; omega)) px (de_rd (i := 3)) (da_cons (de_rd (i := 7)) da_nil)) de_bl) (dw_or1 (dt_not (dt_truP (dp_of (de_callS h__law_give hr (by first | decide | omega | (simp only [Nat.add_eq, Nat.succ_eq_add_one]; omega)) px (by rfl) (da_cons (de_rd (i := 5)) (da_cons (de_rd (i := 2)) (da_cons (de_rd (i := 7)) da_nil)))))))))) (dss_one (ds_ret de_bl)) dss_nil))) (dss_cons (ds_if (dt_w (dw_or (dt_ne hu (de_meth0 h_Heap_blocks hr (by first | decide | omega | (simp only [Nat.add_eq, Nat.succ_eq_add_one]; omega)) px (de_rd (i := 3))) (de_tup da_nil)) (dw_or1 (dt_w (dw_and (dt_ne hu (de_ixV (i := 2) hu de_int) de_str) (dw_and1 (dt_ne hu (de_meth0 h_Heap_top hr (by first | decide | omega | (simp only [Nat.add_eq, Nat.succ_eq_add_one]; omega)) px (de_rd (i := 3))) de_int))))))) (dss_one (ds_ret de_bl)) dss_nil) (dss_one (ds_ret (de_and (de_eq hu (de_meth0 h_Heap_top hr (by first | decide | omega | (simp only [Nat.add_eq, Nat.succ_eq_add_one]; omega)) px (de_rd (i := 4))) de_int) (de_and (de_eq hu (de_meth0 h_Heap_pieces hr (by first | decide | omega | (simp only [Nat.add_eq, Nat.succ_eq_add_one]; omega)) px (de_rd (i := 4))) (de_tup da_nil)) (de_one (de_is (de_meth h_Heap_give hr (by first | decide | omega | (simp only [Nat.add_eq, Nat.succ_eq_add_one]; omega)) px (de_rd (i := 4)) (da_cons de_int da_nil)) de_bl))))))))))))))
end
end K85
namespace K85
open PySem PySem.Spec PyProof.Rows L2 Dz
theorem fmod_pos (x : Int) {m : Int} (h : 0 < m) : 0 ≤ x.fmod m ∧ x.fmod m < m := ⟨Int.fmod_nonneg_of_pos x h, Int.fmod_lt_of_pos x h⟩
theorem cMul_l {i j : Int} (h1 : -(2 ^ 64) < i) (h2 : i < 2 ^ 64) : cMul i j = true := by unfold cMul; simp only [decide_eq_true h1, decide_eq_true h2, Bool.and_self, Bool.true_or]
theorem cMul_r {i j : Int} (h1 : -(2 ^ 64) < j) (h2 : j < 2 ^ 64) : cMul i j = true := by unfold cMul; simp only [decide_eq_true h1, decide_eq_true h2, Bool.and_self, Bool.or_true]
theorem fz_ix {ns : List Int} {k : Nat} {s : Sta} (h : k < ns.length) : ixO (.fz (ns.map .int)) (.p (.int k)) s = some (.p (.int ns[k])) := by
  show atI ((ns.map P.int).map D.p) k = _
  unfold atI ixN
  rw [if_pos (by omega), if_pos (by simp; omega)]
  simp [h]
theorem snoc_lst (xs : List Int) (y : Int) : (xs.map P.int) ++ [P.int y] = (xs ++ [y]).map P.int := by rw [List.map_append]; rfl
theorem ed_min {s : Sta} {f g : Ev} {i j : Int} (hf : EvI f s i) (hg : EvI g s j) : EvI (bnd (consA f (consA g nilA)) minD) s (if j < i then j else i) := by
  unfold EvI; rw [bnd_ok (ea_cons hf (ea_cons hg ea_nil))]; rfl
theorem ed_max {s : Sta} {f g : Ev} {i j : Int} (hf : EvI f s i) (hg : EvI g s j) : EvI (bnd (consA f (consA g nilA)) maxD) s (if j > i then j else i) := by
  unfold EvI; rw [bnd_ok (ea_cons hf (ea_cons hg ea_nil))]; rfl
def DrI (ns : List Int) (m : Nat) (s : Sta) : Prop := ∃ (xs : List Int) (a b c d : Sl), s = ⟨[.v (.fz (ns.map .int)), .lin (.lst (xs.map .int)), a, b, c, d], some []⟩ ∧ xs.length ≤ m
theorem draws_ok (ns : List Int) (h63 : ns.length ≤ 63) : ∃ d s, m__law_draws [.fz (ns.map .int)] (some []) = .ok d s ∧ ∃ xs : List Int, d = .p (.lst (xs.map .int)) ∧ xs.length ≤ 1260 := by
  refine run_wp (R := fun d _ => ∃ xs : List Int, d = .p (.lst (xs.map .int)) ∧ xs.length ≤ 1260) rfl ?_
  show Wp (g__law_draws ⟨[.v (.fz (ns.map .int)), .un, .un, .un, .un, .un], some []⟩) _
  unfold g__law_draws
  have hsz : sizeLine = 16777216 := rfl
  refine wp_seq (wp_setL (m := .lst []) rfl ?_)
  have hlen := ed_len (fp := pk 0) (d := .fz (ns.map .int)) (ds := (ns.map P.int).map D.p) (s := ⟨[.v (.fz (ns.map .int)), .lin (.lst []), .un, .un, .un, .un], some []⟩) (ep_pk rfl) rfl
  rw [List.length_map, List.length_map] at hlen
  have hmin := ed_min hlen (ed_cst (d := .p (.int 63)))
  rw [if_neg (by omega)] at hmin
  refine wp_seq (wp_rng (j := ns.length) (s1 := ⟨[.v (.fz (ns.map .int)), .lin (.lst []), .un, .un, .un, .un], some []⟩) (fun k s => DrI ns (20 * k) s)
    (ea_cons hmin ea_nil) (by omega) ⟨[], _, _, _, _, rfl, by simp⟩ (fun k s hk hs => ?_) fun s hs => ?_)
  · obtain ⟨xs, a, b, c, d, rfl, hx⟩ := hs
    dsimp only
    show Wp (seqS _ _ ⟨[.v (.fz (ns.map .int)), .lin (.lst (xs.map .int)), .v (.p (.int k)), b, c, d], some []⟩) _
    refine wp_seq (wp_set (d := .p (.int (if ns[k] < 0 then -ns[k] else ns[k]))) (ed_abs (ep_as (ed_ixV rfl (ed_rd (n := 2) rfl) (fz_ix hk)))) ?_)
    generalize (if ns[k] < 0 then -ns[k] else ns[k]) = cell
    dsimp only
    refine wp_if (et_b (eb_ge (i := cell) (ed_rd rfl) (ed_pow (i := 10) (j := 18) ed_cst ed_cst (by decide)))) (fun _ => ?_) fun _ => ?_
    · refine wp_rng (j := 20) (s1 := ⟨[.v (.fz (ns.map .int)), .lin (.lst (xs.map .int)), .v (.p (.int k)), .v (.p (.int cell)), c, d], some []⟩) (fun j s => ∃ (xs : List Int) (cell : Int) (c : Sl), s = ⟨[.v (.fz (ns.map .int)), .lin (.lst (xs.map .int)), .v (.p (.int k)), .v (.p (.int cell)), c, d], some []⟩ ∧ xs.length ≤ 20 * k + j)
        rfl (by decide) ⟨xs, cell, c, rfl, by omega⟩ (fun j s hj hs => ?_) fun s hs => ?_
      · obtain ⟨xs, cell, c, rfl, hx⟩ := hs
        show Wp (ifS _ _ _ ⟨[.v (.fz (ns.map .int)), .lin (.lst (xs.map .int)), .v (.p (.int k)), .v (.p (.int cell)), .v (.p (.int j)), d], some []⟩) _
        refine wp_if (et_b (eb_gt (ed_rd rfl) ed_cst)) (fun _ => ?_) fun _ => wp_skip ⟨xs, cell, _, rfl, by omega⟩
        have hl : (xs.map P.int).length < sizeLine := by rw [List.length_map]; omega
        refine wp_seq (wp_app (y := .int (cell.fmod 1000)) rfl (ed_mod (i := cell) (ed_rd rfl) ed_cst (by decide)) hl ?_)
        dsimp only
        refine wp_set (d := .p (.int (cell.fdiv 1000))) (ed_fdiv (i := cell) (ed_rd rfl) ed_cst (by decide)) ?_
        refine ⟨xs ++ [cell.fmod 1000], cell.fdiv 1000, .v (.p (.int j)), ?_, by rw [List.length_append, List.length_singleton]; omega⟩
        rw [← snoc_lst]; rfl
      · obtain ⟨xs, cell, c, rfl, hx⟩ := hs
        exact ⟨xs, _, _, _, _, rfl, by omega⟩
    · refine wp_seq (wp_set (d := .p (.int ((ns[k] * 48271 + k * 69621 + 12345).fmod 2147483647))) (ed_mod (ed_int (ep_as (ed_add (ed_add (ed_mul (i := ns[k]) (ed_ixV rfl (ed_rd (n := 2) rfl) (fz_ix hk)) ed_cst (cMul_r (by decide) (by decide))) (ed_mul (i := k) (ed_rd rfl) ed_cst (cMul_r (by decide) (by decide)))) ed_cst))) ed_cst (by decide)) ?_)
      have hb := fmod_pos (ns[k] * 48271 + k * 69621 + 12345) (m := 2147483647) (by decide)
      generalize (ns[k] * 48271 + k * 69621 + 12345 : Int).fmod 2147483647 = mx at hb
      dsimp only
      refine wp_rng (j := 3) (s1 := ⟨[.v (.fz (ns.map .int)), .lin (.lst (xs.map .int)), .v (.p (.int k)), .v (.p (.int cell)), c, .v (.p (.int mx))], some []⟩) (fun j s => ∃ (xs : List Int) (mx : Int) (c : Sl), s = ⟨[.v (.fz (ns.map .int)), .lin (.lst (xs.map .int)), .v (.p (.int k)), .v (.p (.int cell)), c, .v (.p (.int mx))], some []⟩ ∧ xs.length ≤ 20 * k + j ∧ 0 ≤ mx ∧ mx < 2147483647)
        rfl (by decide) ⟨xs, mx, c, rfl, by omega, hb⟩ (fun j s hj hs => ?_) fun s hs => ?_
      · obtain ⟨xs, mx, c, rfl, hx, hb1, hb2⟩ := hs
        show Wp (seqS _ _ ⟨[.v (.fz (ns.map .int)), .lin (.lst (xs.map .int)), .v (.p (.int k)), .v (.p (.int cell)), .v (.p (.int j)), .v (.p (.int mx))], some []⟩) _
        refine wp_seq (wp_set (d := .p (.int ((mx * mx + j * 7919 + 17).fmod 2147483629))) (ed_mod (ed_int (ep_as (ed_add (ed_add (ed_mul (i := mx) (j := mx) (ed_rd rfl) (ed_rd rfl) (cMul_r (by omega) (by omega))) (ed_mul (i := j) (ed_rd rfl) ed_cst (cMul_r (by decide) (by decide)))) ed_cst))) ed_cst (by decide)) ?_)
        have hb := fmod_pos (mx * mx + j * 7919 + 17) (m := 2147483629) (by decide)
        generalize (mx * mx + j * 7919 + 17 : Int).fmod 2147483629 = my at hb
        dsimp only
        have hl : (xs.map P.int).length < sizeLine := by rw [List.length_map]; omega
        refine wp_app (y := .int (my.fmod 1000)) rfl (ed_mod (i := my) (ed_rd rfl) ed_cst (by decide)) hl ?_
        refine ⟨xs ++ [my.fmod 1000], my, .v (.p (.int j)), ?_, by rw [List.length_append, List.length_singleton]; omega, by omega, by omega⟩
        rw [← snoc_lst]; rfl
      · obtain ⟨xs, mx, c, rfl, hx, _⟩ := hs
        exact ⟨xs, _, _, _, _, rfl, by omega⟩
  · obtain ⟨xs, a, b, c, d, rfl, hx⟩ := hs
    dsimp only
    have e : rd 1 ⟨[.v (.fz (ns.map .int)), .lin (.lst (xs.map .int)), a, b, c, d], some []⟩ = .ok (.p (.lst (xs.map .int))) ⟨[.v (.fz (ns.map .int)), .v (.p (.lst (xs.map .int))), a, b, c, d], some []⟩ := rfl
    exact wp_retB e ⟨xs, rfl, by omega⟩
/-! the reader of draws -/
def dr (xs : List Int) (a sd : Int) : MO := .dic [(.inr "row", .p (.lst (xs.map .int))), (.inr "at", .p (.int a)), (.inr "seed", .p (.int sd))]
def IsDr (m : MO) : Prop := ∃ xs a sd, m = dr xs a sd ∧ 0 ≤ a
theorem ixm1 {xs : List Int} {s : Sta} (h : 0 < xs.length) : ∃ y, ixO (.fz (xs.map .int)) (.p (.int (-1))) s = some (.p (.int y)) := by
  refine ⟨xs[xs.length - 1], ?_⟩
  show atI ((xs.map P.int).map D.p) (-1) = _
  unfold atI ixN
  rw [if_neg (by omega), if_pos (by simp; omega)]
  simp only [List.length_map]
  show ((xs.map P.int).map D.p)[((-1 : Int) + xs.length).toNat]? = _
  rw [show ((-1 : Int) + xs.length).toNat = xs.length - 1 by omega, List.getElem?_map, List.getElem?_map, List.getElem?_eq_getElem (by omega)]
  rfl
theorem dd_ok {xs : List Int} {sd : Int} {F : Sl} : disp ((.inr "row", (rd 1)) :: ((.inr "at", (cst (.p (.int 0)))) :: ((.inr "seed", (rd 2)) :: []))) ⟨[F, .v (.p (.lst (xs.map .int))), .v (.p (.int sd))], some []⟩ = .ok [(.inr "row", .p (.lst (xs.map .int))), (.inr "at", .p (.int 0)), (.inr "seed", .p (.int sd))] ⟨[F, .v (.p (.lst (xs.map .int))), .v (.p (.int sd))], some []⟩ := rfl
theorem reader_ok (ns : List Int) (h63 : ns.length ≤ 63) : ∃ d s, m__law_reader [.fz (ns.map .int)] (some []) = .ok d s ∧ d = .loc 0 ∧ ∃ m, s.st = some [m] ∧ IsDr m := by
  obtain ⟨_, s3, e3, xs, rfl, hl⟩ := draws_ok ns h63
  refine run_wp (R := fun d s => d = .loc 0 ∧ ∃ m, s.st = some [m] ∧ IsDr m) rfl ?_
  show Wp (g__law_reader ⟨[.v (.fz (ns.map .int)), .un, .un], some []⟩) _
  unfold g__law_reader
  refine wp_seq (wp_set (d := .p (.lst (xs.map .int))) (ed_callP (ea_cons (ed_rd rfl) ea_nil) rfl e3) ?_)
  refine wp_seq (wp_set (d := .p (.int 5)) ed_cst ?_)
  have fin : ∀ sd : Int, Wp (bndS (dispS ((.inr "row", (rd 1)) :: ((.inr "at", (cst (.p (.int 0)))) :: ((.inr "seed", (rd 2)) :: [])))) retS ⟨[.v (.fz (ns.map .int)), .v (.p (.lst (xs.map .int))), .v (.p (.int sd))], some []⟩) (RetO fun d s => d = .loc 0 ∧ ∃ m, s.st = some [m] ∧ IsDr m) := fun sd => by
    have e : dispS ((.inr "row", (rd 1)) :: ((.inr "at", (cst (.p (.int 0)))) :: ((.inr "seed", (rd 2)) :: []))) ⟨[.v (.fz (ns.map .int)), .v (.p (.lst (xs.map .int))), .v (.p (.int sd))], some []⟩ = .ok (.loc 0) ⟨[.v (.fz (ns.map .int)), .v (.p (.lst (xs.map .int))), .v (.p (.int sd))], some [dr xs 0 sd]⟩ := by
      unfold dispS
      rw [bnd_ok dd_ok]
      rfl
    exact wp_retB e ⟨rfl, _, rfl, xs, 0, sd, rfl, by decide⟩
  have hlen := ed_len (fp := pk 0) (d := .fz (ns.map .int)) (ds := (ns.map P.int).map D.p) (s := ⟨[.v (.fz (ns.map .int)), .v (.p (.lst (xs.map .int))), .v (.p (.int 5))], some []⟩) (ep_pk rfl) rfl
  rw [List.length_map, List.length_map] at hlen
  refine wp_seq (wp_if (et_b (eb_gt hlen ed_cst)) (fun h => ?_) fun _ => wp_skip (fin 5))
  obtain ⟨y, hy⟩ := ixm1 (xs := ns) (s := ⟨[.v (.fz (ns.map .int)), .v (.p (.lst (xs.map .int))), .v (.p (.int 5))], some []⟩) (by have := of_decide_eq_true h; omega)
  refine wp_set (d := .p (.int (Int.fmod (if y < 0 then -y else y) 1000003))) (ed_mod (ed_abs (ep_as (ed_ixV rfl (ed_neg (i := 1) ed_cst) hy))) ed_cst (by decide)) ?_
  exact fin _
section
variable {R : List MO} {sl : List Sl} {m : MO}
theorem next_ok {n : Nat} (hn : 0 < n) (h : IsDr m) : ∃ (v : Nat) (s : Sta), m__law_next [.loc 0, .p (.int n)] (some (m :: R)) = .ok (.p (.int v)) s ∧ v < n ∧ ∃ m', s.st = some (m' :: R) ∧ IsDr m' := by
  obtain ⟨xs, a, sd, rfl, ha⟩ := h
  suffices h : ∃ d s, m__law_next [.loc 0, .p (.int n)] (some (dr xs a sd :: R)) = .ok d s ∧ ∃ v : Nat, d = .p (.int v) ∧ v < n ∧ ∃ m', s.st = some (m' :: R) ∧ IsDr m' by
    obtain ⟨_, s, e, v, rfl, h⟩ := h; exact ⟨v, s, e, h⟩
  have fin : ∀ y : Int, ∃ v : Nat, D.p (.int (y.fmod n)) = .p (.int v) ∧ v < n := fun y => by
    have := fmod_pos y (m := n) (by omega)
    exact ⟨(y.fmod n).toNat, by rw [Int.toNat_of_nonneg this.1], by omega⟩
  refine run_wp (R := fun d s => ∃ v : Nat, d = .p (.int v) ∧ v < n ∧ ∃ m', s.st = some (m' :: R) ∧ IsDr m') rfl ?_
  show Wp (g__law_next ⟨[.v (.loc 0), .v (.p (.int n)), .un, .un], some (dr xs a sd :: R)⟩) _
  unfold g__law_next
  refine wp_seq (wp_set (d := .p (.int a)) (ed_ixV (d := .loc 0) rfl ed_cst rfl) ?_)
  refine wp_seq (wp_eq (r' := .nx ⟨[.v (.loc 0), .v (.p (.int n)), .v (.p (.int a)), .un], some (dr xs (a + 1) sd :: R)⟩) rfl (wp_nx ?_))
  dsimp only
  have hrow : EvD (ixV 0 (cst (.p (.str "row")))) ⟨[.v (.loc 0), .v (.p (.int n)), .v (.p (.int a)), .un], some (dr xs (a + 1) sd :: R)⟩ (.p (.lst (xs.map .int))) := ed_ixV (d := .loc 0) rfl ed_cst rfl
  have hlen := ed_len (d := .p (.lst (xs.map .int))) (ds := (xs.map P.int).map D.p) (ep_as hrow) rfl
  rw [List.length_map, List.length_map] at hlen
  refine wp_seq (wp_if (et_b (eb_lt (i := a) (ed_rd rfl) hlen)) (fun h => ?_) fun _ => wp_skip ?_)
  · have h := of_decide_eq_true h
    obtain ⟨i, rfl⟩ := Int.eq_ofNat_of_zero_le ha
    have hi : i < (xs.map P.int).length := by rw [List.length_map]; omega
    obtain ⟨v, e, hv⟩ := fin xs[i]
    refine wp_ret (d := .p (.int (xs[i].fmod n))) (ed_mod (ed_int (ep_as (ed_ix hrow (ed_rd rfl) (by rw [ix_lst hi]; simp)))) (ed_rd rfl) (by omega)) ⟨v, e, hv, _, rfl, xs, i + 1, sd, rfl, by omega⟩
  · refine wp_seq (wp_set (d := .p (.int (((sd + 17 * a + 3) * 48271).fmod 2147483647))) (ed_mod (ed_int (ep_as (ed_mul (ed_add (ed_add (i := sd) (ed_ixV (d := .loc 0) rfl ed_cst rfl) (ed_mul (i := 17) (j := a) ed_cst (ed_rd rfl) (cMul_l (by decide) (by decide)))) ed_cst) ed_cst (cMul_r (by decide) (by decide))))) ed_cst (by decide)) ?_)
    have hb := fmod_pos ((sd + 17 * a + 3) * 48271) (m := 2147483647) (by decide)
    generalize ((sd + 17 * a + 3) * 48271 : Int).fmod 2147483647 = mx at hb
    dsimp only
    obtain ⟨v, e, hv⟩ := fin (((mx * mx + a).fmod 2147483629).fdiv 7)
    exact wp_ret (d := .p (.int ((((mx * mx + a).fmod 2147483629).fdiv 7).fmod n))) (ed_mod (ed_fdiv (ed_mod (ed_int (ep_as (ed_add (ed_mul (i := mx) (j := mx) (ed_rd rfl) (ed_rd rfl) (cMul_r (by omega) (by omega))) (ed_rd rfl)))) ed_cst (by decide)) ed_cst (by decide)) (ed_rd rfl) (by omega)) ⟨v, e, hv, _, rfl, xs, a + 1, sd, rfl, by omega⟩
/-- a draw -/
theorem next_at {i : Nat} {n : Nat} {g : Ev} (h0 : sl[i]? = some (.v (.loc 0))) (hg : ∀ st, EvI g ⟨sl, st⟩ n) (hn : 0 < n) (h : IsDr m) : ∃ (v : Nat) (m' : MO), callS m__law_next (consA (rd i) (consA g nilA)) ⟨sl, some (m :: R)⟩ = .ok (.p (.int v)) ⟨sl, some (m' :: R)⟩ ∧ v < n ∧ IsDr m' := by
  obtain ⟨v, s, e, hv, m', es, hd⟩ := next_ok (R := R) hn h
  refine ⟨v, m', ?_, hv, hd⟩
  have := callS_ok (m := m__law_next) (fa := consA (rd i) (consA g nilA)) (s := ⟨sl, some (m :: R)⟩) (s1 := ⟨sl, some (m :: R)⟩) (ea_cons (ed_rd h0) (ea_cons (hg _) ea_nil)) e
  rw [es] at this
  exact this
end
end K85
/-! pieces of words: sorted, apart -/
namespace K85
open PySem PySem.Spec PyProof.Rows L2 Dz
abbrev Pr := Int × Int
/-- w lies in one of the pieces -/
def In (G : List Pr) (w : Int) : Prop := ∃ q ∈ G, q.1 ≤ w ∧ w < q.1 + q.2
/-- sorted, apart, none empty -/
def Ok : Int → List Pr → Prop
  | _, [] => True
  | lo, q :: G => lo < q.1 ∧ 1 ≤ q.2 ∧ Ok (q.1 + q.2) G
def endOf : Int → List Pr → Int
  | lo, [] => lo
  | _, q :: G => endOf (q.1 + q.2) G
theorem in_nil {w : Int} : ¬ In [] w := fun ⟨_, h, _⟩ => nomatch h
theorem in_cons {q : Pr} {G : List Pr} {w : Int} : In (q :: G) w ↔ (q.1 ≤ w ∧ w < q.1 + q.2) ∨ In G w := by
  constructor
  · rintro ⟨r, h, h2⟩
    rcases List.mem_cons.mp h with rfl | h
    · exact .inl h2
    · exact .inr ⟨r, h, h2⟩
  · rintro (h | ⟨r, h, h2⟩)
    · exact ⟨q, List.mem_cons_self .., h⟩
    · exact ⟨r, List.mem_cons_of_mem _ h, h2⟩
theorem in_app {L R : List Pr} {w : Int} : In (L ++ R) w ↔ In L w ∨ In R w := by
  constructor
  · rintro ⟨r, h, h2⟩
    rcases List.mem_append.mp h with h | h
    · exact .inl ⟨r, h, h2⟩
    · exact .inr ⟨r, h, h2⟩
  · rintro (⟨r, h, h2⟩ | ⟨r, h, h2⟩)
    · exact ⟨r, List.mem_append_left _ h, h2⟩
    · exact ⟨r, List.mem_append_right _ h, h2⟩
theorem ok_mono {lo lo' : Int} {G : List Pr} (h : Ok lo G) (hl : lo' ≤ lo) : Ok lo' G := by
  cases G with
  | nil => trivial
  | cons q G => exact ⟨by have := h.1; omega, h.2⟩
theorem ok_lo : ∀ {G : List Pr} {lo w : Int}, Ok lo G → In G w → lo < w
  | [], _, _, _, h => (in_nil h).elim
  | q :: G, lo, w, h, hi => by
    obtain ⟨h1, h2, h3⟩ := h
    rcases in_cons.mp hi with hi | hi
    · omega
    · have := ok_lo h3 hi
      omega
theorem ok_uniq : ∀ {G G' : List Pr} {lo lo' : Int}, Ok lo G → Ok lo' G' → (∀ w, In G w ↔ In G' w) → G = G'
  | [], [], _, _, _, _, _ => rfl
  | [], q :: G', _, _, _, h', e => (in_nil ((e q.1).mpr (in_cons.mpr (.inl ⟨Int.le_refl _, by have := h'.2.1; omega⟩)))).elim
  | q :: G, [], _, _, h, _, e => (in_nil ((e q.1).mp (in_cons.mpr (.inl ⟨Int.le_refl _, by have := h.2.1; omega⟩)))).elim
  | q :: G, r :: G', lo, lo', h, h', e => by
    obtain ⟨h1, h2, h3⟩ := h
    obtain ⟨k1, k2, k3⟩ := h'
    have a1 : r.1 ≤ q.1 := by
      rcases in_cons.mp ((e q.1).mp (in_cons.mpr (.inl ⟨Int.le_refl _, by omega⟩))) with z | z
      · exact z.1
      · have := ok_lo k3 z; omega
    have a2 : q.1 ≤ r.1 := by
      rcases in_cons.mp ((e r.1).mpr (in_cons.mpr (.inl ⟨Int.le_refl _, by omega⟩))) with z | z
      · exact z.1
      · have := ok_lo h3 z; omega
    have b1 : q.2 ≤ r.2 := by
      by_cases c : q.2 ≤ r.2
      · exact c
      · rcases in_cons.mp ((e (r.1 + r.2)).mp (in_cons.mpr (.inl ⟨by omega, by omega⟩))) with z | z
        · omega
        · have := ok_lo k3 z; omega
    have b2 : r.2 ≤ q.2 := by
      by_cases c : r.2 ≤ q.2
      · exact c
      · rcases in_cons.mp ((e (q.1 + q.2)).mpr (in_cons.mpr (.inl ⟨by omega, by omega⟩))) with z | z
        · omega
        · have := ok_lo h3 z; omega
    have eq : q = r := Prod.ext (by omega) (by omega)
    subst eq
    rw [ok_uniq h3 k3 fun w => ?_]
    constructor
    · intro hi
      have := ok_lo h3 hi
      rcases in_cons.mp ((e w).mp (in_cons.mpr (.inr hi))) with z | z
      · omega
      · exact z
    · intro hi
      have := ok_lo k3 hi
      rcases in_cons.mp ((e w).mpr (in_cons.mpr (.inr hi))) with z | z
      · omega
      · exact z
theorem ok_app : ∀ {L : List Pr} {lo : Int} {R : List Pr}, Ok lo (L ++ R) ↔ Ok lo L ∧ Ok (endOf lo L) R
  | [], _, _ => ⟨fun h => ⟨trivial, h⟩, fun h => h.2⟩
  | q :: L, lo, R => by
    show lo < q.1 ∧ 1 ≤ q.2 ∧ Ok (q.1 + q.2) (L ++ R) ↔ (lo < q.1 ∧ 1 ≤ q.2 ∧ Ok (q.1 + q.2) L) ∧ Ok (endOf (q.1 + q.2) L) R
    rw [ok_app]
    constructor
    · rintro ⟨a, b, c, d⟩; exact ⟨⟨a, b, c⟩, d⟩
    · rintro ⟨⟨a, b, c⟩, d⟩; exact ⟨a, b, c, d⟩
theorem end_app {L R : List Pr} {lo : Int} : endOf lo (L ++ R) = endOf (endOf lo L) R := by
  induction L generalizing lo with
  | nil => rfl
  | cons q L ih => exact ih
theorem end_snoc {L : List Pr} {lo : Int} {q : Pr} : endOf lo (L ++ [q]) = q.1 + q.2 := by rw [end_app]; rfl
theorem ok_each : ∀ {G : List Pr} {lo : Int}, Ok lo G → ∀ q ∈ G, lo < q.1 ∧ 1 ≤ q.2
  | [], _, _, _, h => nomatch h
  | r :: G, lo, h, q, hq => by
    obtain ⟨h1, h2, h3⟩ := h
    rcases List.mem_cons.mp hq with rfl | hq
    · exact ⟨h1, h2⟩
    · have := ok_each h3 q hq
      exact ⟨by omega, this.2⟩
theorem ok_inc : ∀ {G : List Pr} {lo : Int}, Ok lo G → G.Pairwise fun q r => q.1 + q.2 < r.1
  | [], _, _ => .nil
  | r :: G, lo, h => List.pairwise_cons.mpr ⟨fun q hq => (ok_each h.2.2 q hq).1, ok_inc h.2.2⟩
theorem ok_at {G : List Pr} {lo : Int} (h : Ok lo G) {i j : Nat} (hij : i < j) (hj : j < G.length) : (G[i]'(by omega)).1 < G[j].1 := by
  have := List.pairwise_iff_getElem.mp (ok_inc h) i j (by omega) hj hij
  have := (ok_each h (G[i]'(by omega)) (List.getElem_mem _)).2
  omega
/-! ### one piece more -/
def joinR (q : Pr) : List Pr → List Pr
  | [] => [q]
  | r :: R => if q.1 + q.2 = r.1 then (q.1, q.2 + r.2) :: R else q :: r :: R
theorem joinR_cons {q r : Pr} {R : List Pr} : joinR q (r :: R) = if q.1 + q.2 = r.1 then (q.1, q.2 + r.2) :: R else q :: r :: R := rfl
theorem joinR_ok {q : Pr} {R : List Pr} {lo : Int} (h1 : lo < q.1) (h2 : 1 ≤ q.2) (h : Ok (q.1 + q.2 - 1) R) : Ok lo (joinR q R) := by
  cases R with
  | nil => exact ⟨h1, h2, trivial⟩
  | cons r R =>
    obtain ⟨k1, k2, k3⟩ := h
    rw [joinR_cons]
    split
    · rename_i e
      exact ⟨h1, by show 1 ≤ q.2 + r.2; omega, by show Ok (q.1 + (q.2 + r.2)) R; rw [show q.1 + (q.2 + r.2) = r.1 + r.2 by omega]; exact k3⟩
    · exact ⟨h1, h2, by omega, k2, k3⟩
theorem joinR_in {q : Pr} {R : List Pr} {lo : Int} (h : Ok lo R) (h2 : 1 ≤ q.2) {w : Int} : In (joinR q R) w ↔ (q.1 ≤ w ∧ w < q.1 + q.2) ∨ In R w := by
  cases R with
  | nil => exact in_cons
  | cons r R =>
    have k2 := h.2.1
    rw [joinR_cons]
    split
    · rename_i e
      rw [in_cons, in_cons]
      show (q.1 ≤ w ∧ w < q.1 + (q.2 + r.2)) ∨ In R w ↔ _
      constructor
      · rintro (z | z)
        · by_cases c : w < q.1 + q.2
          · exact .inl ⟨z.1, c⟩
          · exact .inr (.inl ⟨by omega, by omega⟩)
        · exact .inr (.inr z)
      · rintro (z | z | z)
        · exact .inl ⟨by omega, by omega⟩
        · exact .inl ⟨by omega, by omega⟩
        · exact .inr z
    · exact in_cons
theorem joinR_ne {q : Pr} {R : List Pr} : joinR q R ≠ [] := by
  cases R with
  | nil => exact fun z => by cases z
  | cons r R =>
    rw [joinR_cons]
    split <;> exact fun z => by cases z
/-- two neighbours become one, if they touch -/
def uni (G : List Pr) (i : Nat) : List Pr := match G.drop i with
  | q :: r :: R => if q.1 + q.2 = r.1 then G.take i ++ (q.1, q.2 + r.2) :: R else G
  | _ => G
theorem uni_at (L : List Pr) (q : Pr) (R : List Pr) : uni (L ++ q :: R) L.length = L ++ joinR q R := by
  unfold uni
  rw [List.drop_left, List.take_left]
  cases R with
  | nil => rfl
  | cons r R =>
    show (if q.1 + q.2 = r.1 then L ++ (q.1, q.2 + r.2) :: R else L ++ q :: r :: R) = L ++ (if q.1 + q.2 = r.1 then (q.1, q.2 + r.2) :: R else q :: r :: R)
    split <;> rfl
/-- a block comes back -/
def putBack (G : List Pr) (i : Nat) (x : Pr) : List Pr := if 0 < i then uni (uni (G.take i ++ [x] ++ G.drop i) i) (i - 1) else uni (G.take i ++ [x] ++ G.drop i) i
theorem putBack_ok {G : List Pr} {i : Nat} {x : Pr} (h : Ok 0 G) (h1 : 0 < x.1) (h2 : 1 ≤ x.2) (hi : i ≤ G.length) (hL : ∀ q ∈ G.take i, q.1 < x.1) (hR : ∀ q ∈ G.drop i, x.1 ≤ q.1) (ho : ∀ w, x.1 ≤ w → w < x.1 + x.2 → ¬ In G w) :
    Ok 0 (putBack G i x) ∧ (∀ w, In (putBack G i x) w ↔ In G w ∨ (x.1 ≤ w ∧ w < x.1 + x.2)) ∧ putBack G i x ≠ [] := by
  have hG : G = G.take i ++ G.drop i := (List.take_append_drop i G).symm
  have hl : (G.take i).length = i := by rw [List.length_take]; omega
  rw [hG] at h ho
  unfold putBack
  generalize G.take i = L at *
  generalize G.drop i = R at *
  subst hG
  obtain ⟨k1, k2⟩ := ok_app.mp h
  have kR : Ok (x.1 + x.2 - 1) R := by
    cases R with
    | nil => trivial
    | cons r R =>
      obtain ⟨m1, m2, m3⟩ := k2
      refine ⟨?_, m2, m3⟩
      have a1 := hR r (List.mem_cons_self ..)
      by_cases c : r.1 < x.1 + x.2
      · exact (ho r.1 a1 c (in_app.mpr (.inr (in_cons.mpr (.inl ⟨Int.le_refl _, by omega⟩))))).elim
      · omega
  have e1 : L ++ [x] ++ R = L ++ x :: R := by simp
  rw [e1]
  have u1 : uni (L ++ x :: R) i = L ++ joinR x R := by rw [← hl]; exact uni_at L x R
  rw [u1]
  have jin : ∀ w, In (joinR x R) w ↔ (x.1 ≤ w ∧ w < x.1 + x.2) ∨ In R w := fun w => joinR_in kR h2
  by_cases hp : 0 < i
  · rw [if_pos hp]
    obtain ⟨L', c, rfl⟩ : ∃ L' c, L = L' ++ [c] := by
      rcases List.eq_nil_or_concat L with rfl | ⟨L', c, e⟩
      · simp at hl; omega
      · exact ⟨L', c, by rw [e]; simp⟩
    have e2 : L' ++ [c] ++ joinR x R = L' ++ c :: joinR x R := by simp
    have hl' : i - 1 = L'.length := by
      rw [List.length_append, List.length_singleton] at hl; omega
    rw [e2, hl', uni_at]
    obtain ⟨n1, n2⟩ := ok_app.mp k1
    obtain ⟨n3, n4, _⟩ := n2
    have a1 := hL c (List.mem_append_right _ (List.mem_singleton.mpr rfl))
    have a2 : c.1 + c.2 ≤ x.1 := by
      by_cases z : c.1 + c.2 ≤ x.1
      · exact z
      · exact (ho x.1 (Int.le_refl _) (by omega) (in_app.mpr (.inl (in_app.mpr (.inr (in_cons.mpr (.inl ⟨by omega, by omega⟩))))))).elim
    have jo : Ok (c.1 + c.2 - 1) (joinR x R) := joinR_ok (by omega) h2 kR
    refine ⟨ok_app.mpr ⟨n1, joinR_ok n3 n4 jo⟩, fun w => ?_, fun z => by simp [joinR_ne] at z⟩
    rw [in_app, joinR_in jo n4, jin, in_app, in_app, in_cons]
    constructor
    · rintro (z | z | z | z)
      · exact .inl (.inl (.inl z))
      · exact .inl (.inl (.inr (.inl z)))
      · exact .inr z
      · exact .inl (.inr z)
    · rintro (((z | z | z) | z) | z)
      · exact .inl z
      · exact .inr (.inl z)
      · exact (in_nil z).elim
      · exact .inr (.inr (.inr z))
      · exact .inr (.inr (.inl z))
  · rw [if_neg hp]
    have hi0 : i = 0 := by omega
    have : L = [] := List.eq_nil_of_length_eq_zero (by omega)
    subst this
    refine ⟨joinR_ok h1 h2 kR, fun w => ?_, joinR_ne⟩
    rw [List.nil_append, List.nil_append, jin]
    exact Or.comm
/-! ### a block is cut out -/
def cutG (G : List Pr) (i : Nat) (z : Int) : List Pr := match G.drop i with
  | q :: R => if q.2 > z then G.take i ++ (q.1 + z, q.2 - z) :: R else G.take i ++ R
  | [] => G
theorem cutG_ok {L R : List Pr} {q : Pr} {z : Int} (h : Ok 0 (L ++ q :: R)) (h1 : 1 ≤ z) (hz : z ≤ q.2) :
    Ok 0 (cutG (L ++ q :: R) L.length z) ∧ ∀ w, In (cutG (L ++ q :: R) L.length z) w ↔ In (L ++ q :: R) w ∧ ¬ (q.1 ≤ w ∧ w < q.1 + z) := by
  unfold cutG
  rw [List.drop_left, List.take_left]
  obtain ⟨k1, k2, k3, k4⟩ := ok_app.mp h
  have inL : ∀ w, In L w → w < q.1 := fun w hw => by
    obtain ⟨r, hr, r1, r2⟩ := hw
    have := List.pairwise_append.mp (ok_inc h)
    have := this.2.2 r hr q (List.mem_cons_self ..)
    omega
  have inR : ∀ w, In R w → q.1 + q.2 < w := fun w hw => ok_lo k4 hw
  dsimp only
  split
  · rename_i c
    refine ⟨ok_app.mpr ⟨k1, by show _ < q.1 + z; omega, by show 1 ≤ q.2 - z; omega, by show Ok (q.1 + z + (q.2 - z)) R; rw [show q.1 + z + (q.2 - z) = q.1 + q.2 by omega]; exact k4⟩, fun w => ?_⟩
    rw [in_app, in_cons, in_app, in_cons]
    show In L w ∨ (q.1 + z ≤ w ∧ w < q.1 + z + (q.2 - z)) ∨ In R w ↔ _
    constructor
    · rintro (y | y | y)
      · exact ⟨.inl y, fun k => by have := inL w y; omega⟩
      · exact ⟨.inr (.inl ⟨by omega, by omega⟩), fun k => by omega⟩
      · exact ⟨.inr (.inr y), fun k => by have := inR w y; omega⟩
    · rintro ⟨y | y | y, k⟩
      · exact .inl y
      · exact .inr (.inl ⟨by omega, by omega⟩)
      · exact .inr (.inr y)
  · rename_i c
    have e : z = q.2 := by omega
    subst e
    refine ⟨ok_app.mpr ⟨k1, ok_mono k4 (by omega)⟩, fun w => ?_⟩
    rw [in_app, in_app, in_cons]
    constructor
    · rintro (y | y)
      · exact ⟨.inl y, fun k => by have := inL w y; omega⟩
      · exact ⟨.inr (.inr y), fun k => by have := inR w y; omega⟩
    · rintro ⟨y | y | y, k⟩
      · exact .inl y
      · exact (k y).elim
      · exact .inr y
/-! ### runs, a word at a time -/
def addW (F : List Pr) (w : Int) : List Pr := match F.getLast? with
  | some q => if q.1 + q.2 = w then F.dropLast ++ [(q.1, q.2 + 1)] else F ++ [(w, 1)]
  | none => [(w, 1)]
theorem addW_ok {F : List Pr} {w : Int} (h : Ok 0 F) (h1 : 0 < w) (hw : ∀ v, In F v → v < w) : Ok 0 (addW F w) ∧ ∀ v, In (addW F w) v ↔ In F v ∨ v = w := by
  rcases List.eq_nil_or_concat F with rfl | ⟨L, q, e⟩
  · exact ⟨⟨h1, Int.le_refl 1, trivial⟩, fun v => by
      show In [(w, 1)] v ↔ _
      rw [in_cons]
      constructor
      · rintro (z | z)
        · exact .inr (by have := z.1; have := z.2; dsimp only at *; omega)
        · exact .inl z
      · rintro (z | z)
        · exact .inr z
        · exact .inl ⟨by dsimp only; omega, by dsimp only; omega⟩⟩
  · rw [List.concat_eq_append] at e
    subst e
    unfold addW
    rw [List.getLast?_concat, List.dropLast_concat]
    dsimp only
    obtain ⟨k1, k2, k3, _⟩ := ok_app.mp h
    have hq := hw (q.1 + q.2 - 1) (in_app.mpr (.inr (in_cons.mpr (.inl ⟨by omega, by omega⟩))))
    split
    · rename_i e
      refine ⟨ok_app.mpr ⟨k1, k2, by show 1 ≤ q.2 + 1; omega, trivial⟩, fun v => ?_⟩
      rw [in_app, in_cons, in_app, in_cons]
      show In L v ∨ (q.1 ≤ v ∧ v < q.1 + (q.2 + 1)) ∨ In [] v ↔ _
      constructor
      · rintro (z | z | z)
        · exact .inl (.inl z)
        · by_cases c : v = w
          · exact .inr c
          · exact .inl (.inr (.inl ⟨by omega, by omega⟩))
        · exact (in_nil z).elim
      · rintro ((z | z | z) | z)
        · exact .inl z
        · exact .inr (.inl ⟨by omega, by omega⟩)
        · exact (in_nil z).elim
        · exact .inr (.inl ⟨by omega, by omega⟩)
    · rename_i e
      refine ⟨ok_app.mpr ⟨h, by rw [end_snoc]; show q.1 + q.2 < w; omega, Int.le_refl 1, trivial⟩, fun v => ?_⟩
      rw [in_app, in_cons]
      constructor
      · rintro (z | z | z)
        · exact .inl z
        · exact .inr (by have := z.1; have := z.2; dsimp only at *; omega)
        · exact (in_nil z).elim
      · rintro (z | z)
        · exact .inl z
        · exact .inr (.inl ⟨by dsimp only; omega, by dsimp only; omega⟩)
/-! ### which piece -/
/-- the first of the smallest -/
def minG (F : List Pr) (q : Pr) : Pr := F.foldl (fun f r => if r.2 < f.2 then r else f) q
theorem minG_ok : ∀ (F P : List Pr) (f : Pr), (P ++ F).Pairwise (fun q r => q.1 < r.1) → f ∈ P → (∀ r ∈ P, f.2 < r.2 ∨ (f.2 = r.2 ∧ f.1 ≤ r.1)) → minG F f ∈ P ++ F ∧ ∀ r ∈ P ++ F, (minG F f).2 < r.2 ∨ ((minG F f).2 = r.2 ∧ (minG F f).1 ≤ r.1)
  | [], P, f, _, hm, h => by rw [List.append_nil]; exact ⟨hm, h⟩
  | x :: F, P, f, hs, hm, h => by
    have e : P ++ x :: F = (P ++ [x]) ++ F := by simp
    rw [e] at hs ⊢
    have hx : ∀ r ∈ P, r.1 < x.1 := fun r hr => by
      have := (List.pairwise_append.mp (List.pairwise_append.mp hs).1).2.2 r hr x (List.mem_singleton.mpr rfl)
      exact this
    rw [show minG (x :: F) f = minG F (if x.2 < f.2 then x else f) from rfl]
    refine minG_ok F (P ++ [x]) _ hs ?_ fun r hr => ?_
    · split
      · exact List.mem_append_right _ (List.mem_singleton.mpr rfl)
      · exact List.mem_append_left _ hm
    · rcases List.mem_append.mp hr with hr | hr
      · have := h r hr
        split
        · exact .inl (by rename_i c; omega)
        · exact this
      · rw [List.mem_singleton] at hr
        subst hr
        split
        · exact .inr ⟨rfl, Int.le_refl _⟩
        · have := hx f hm
          by_cases c : f.2 = r.2
          · exact .inr ⟨c, by omega⟩
          · exact .inl (by omega)
def pickP (pol : Str) (last : Int) (F : List Pr) (q : Pr) : Pr :=
  if pol = "best" then minG F q else if pol = "next" then ((F.filter fun r => decide (last ≤ r.1)) ++ F).headD q else q
end K85
/-! the smallest, by sorting; blocks; dicts of blocks -/
namespace K85
open PySem PySem.Spec PyProof.Rows L2 Dz
/-! ### the smallest by sorting -/
def swp (q : Pr) : Pr := (q.2, q.1)
theorem sortII_head {ks : List Pr} {q : Pr} (hq : q ∈ ks) (h : ∀ r ∈ ks, SrtO.lexB r q = false) : ∃ r, sortII ks = q :: r := by
  have hp := sortB_perm SrtO.lexB ks
  have hs := sortB_sorted lexB_swo ks
  show ∃ r, sortB SrtO.lexB ks = q :: r
  cases e : sortB SrtO.lexB ks with
  | nil => rw [e] at hp; have := hp.mem_iff.mpr hq; simp at this
  | cons x xs =>
    rw [e] at hp hs
    have hx : x ∈ ks := hp.mem_iff.mp (List.mem_cons_self ..)
    have h1 := h x hx
    have h2 : SrtO.lexB q x = false := by
      rcases List.mem_cons.mp (hp.mem_iff.mpr hq) with rfl | hm
      · exact lexB_swo.refl _
      · exact (List.pairwise_cons.mp hs).1 q hm
    rw [lexB_tot x q h1 h2]
    exact ⟨xs, rfl⟩
theorem best_head {F : List Pr} {q : Pr} (hs : (q :: F).Pairwise fun q r => q.1 < r.1) : ∃ r, sortII ((q :: F).map swp) = swp (minG (q :: F) q) :: r := by
  have e : minG (q :: F) q = minG F q := by
    show minG F (if q.2 < q.2 then q else q) = _
    rw [if_neg (Int.lt_irrefl _)]
  obtain ⟨h1, h2⟩ := minG_ok F [q] q hs (List.mem_singleton.mpr rfl) fun r hr => by
    rw [List.mem_singleton] at hr; subst hr; exact .inr ⟨rfl, Int.le_refl _⟩
  rw [e]
  refine sortII_head (List.mem_map.mpr ⟨_, h1, rfl⟩) fun r hr => ?_
  obtain ⟨x, hx, rfl⟩ := List.mem_map.mp hr
  have := h2 x hx
  refine SrtO.lexB_no.mpr fun z => ?_
  simp only [swp] at z
  omega
/-! ### blocks -/
def kvD (q : Pr) : L2.Key × D := (Sum.inl q.1, D.p (.int q.2))
structure Blk (B : List Pr) (top : Int) : Prop where
  each : ∀ q ∈ B, 1 ≤ q.1 ∧ 1 ≤ q.2 ∧ q.1 + q.2 ≤ top
  apart : B.Pairwise fun q r => q.1 + q.2 ≤ r.1 ∨ r.1 + r.2 ≤ q.1
def wout (B : List Pr) (a : Int) : List Pr := B.filter fun q => decide (q.1 ≠ a)
theorem blk_ne {B : List Pr} {top : Int} (h : Blk B top) : B.Pairwise fun q r => q.1 ≠ r.1 := by
  refine h.apart.imp_of_mem fun {q r} hq hr z e => ?_
  have := (h.each q hq).2.1
  have := (h.each r hr).2.1
  omega
theorem blk_snoc {B : List Pr} {top top' : Int} {x : Pr} (h : Blk B top) (ht : top ≤ top') (h1 : 1 ≤ x.1) (h2 : 1 ≤ x.2) (h3 : x.1 + x.2 ≤ top') (ho : ∀ w, x.1 ≤ w → w < x.1 + x.2 → ¬ In B w) : Blk (B ++ [x]) top' := by
  refine ⟨fun q hq => ?_, List.pairwise_append.mpr ⟨h.apart, List.pairwise_singleton _ _, fun q hq r hr => ?_⟩⟩
  · rcases List.mem_append.mp hq with hq | hq
    · have := h.each q hq; omega
    · rw [List.mem_singleton] at hq; subst hq; exact ⟨h1, h2, h3⟩
  · rw [List.mem_singleton] at hr
    subst hr
    have hq2 := h.each q hq
    by_cases c1 : q.1 + q.2 ≤ r.1
    · exact .inl c1
    · by_cases c2 : r.1 + r.2 ≤ q.1
      · exact .inr c2
      · by_cases c3 : r.1 ≤ q.1
        · exact (ho q.1 c3 (by omega) ⟨q, hq, Int.le_refl _, by omega⟩).elim
        · exact (ho r.1 (Int.le_refl _) (by omega) ⟨q, hq, by omega, by omega⟩).elim
theorem wout_mem {B : List Pr} {a : Int} {q : Pr} : q ∈ wout B a ↔ q ∈ B ∧ q.1 ≠ a := by unfold wout; rw [List.mem_filter, decide_eq_true_eq]
theorem blk_wout {B : List Pr} {top top' : Int} {a : Int} (h : Blk B top) (ht : ∀ q ∈ wout B a, q.1 + q.2 ≤ top') : Blk (wout B a) top' :=
  ⟨fun q hq => ⟨(h.each q (wout_mem.mp hq).1).1, (h.each q (wout_mem.mp hq).1).2.1, ht q hq⟩, h.apart.filter _⟩
theorem blk_apart {B : List Pr} {top : Int} (h : Blk B top) {q r : Pr} (hq : q ∈ B) (hr : r ∈ B) (hne : q.1 ≠ r.1) : q.1 + q.2 ≤ r.1 ∨ r.1 + r.2 ≤ q.1 := by
  obtain ⟨i, hi, rfl⟩ := List.mem_iff_getElem.mp hq
  obtain ⟨j, hj, rfl⟩ := List.mem_iff_getElem.mp hr
  rcases Nat.lt_trichotomy i j with c | c | c
  · exact List.pairwise_iff_getElem.mp h.apart i j hi hj c
  · subst c; exact (hne rfl).elim
  · exact (List.pairwise_iff_getElem.mp h.apart j i hj hi c).symm
theorem blk_same {B : List Pr} {top : Int} (h : Blk B top) {q r : Pr} (hq : q ∈ B) (hr : r ∈ B) (e : q.1 = r.1) : q = r := by
  obtain ⟨i, hi, rfl⟩ := List.mem_iff_getElem.mp hq
  obtain ⟨j, hj, rfl⟩ := List.mem_iff_getElem.mp hr
  rcases Nat.lt_trichotomy i j with c | c | c
  · exact (List.pairwise_iff_getElem.mp (blk_ne h) i j hi hj c e).elim
  · subst c; rfl
  · exact (List.pairwise_iff_getElem.mp (blk_ne h) j i hj hi c e.symm).elim
theorem in_wout {B : List Pr} {top : Int} (h : Blk B top) {x : Pr} (hx : x ∈ B) {w : Int} : In (wout B x.1) w ↔ In B w ∧ ¬ (x.1 ≤ w ∧ w < x.1 + x.2) := by
  constructor
  · rintro ⟨q, hq, h1, h2⟩
    obtain ⟨m, ne⟩ := wout_mem.mp hq
    refine ⟨⟨q, m, h1, h2⟩, fun z => ?_⟩
    have := blk_apart h m hx ne
    omega
  · rintro ⟨⟨q, hq, h1, h2⟩, z⟩
    refine ⟨q, wout_mem.mpr ⟨hq, fun e => ?_⟩, h1, h2⟩
    have := blk_same h hq hx e
    subst this
    exact z ⟨h1, h2⟩
/-! ### as dicts -/
theorem find_any {α : Type} (p : α → Bool) (l : List α) : (l.find? p).isSome = l.any p := by
  induction l with
  | nil => rfl
  | cons x l ih =>
    rw [List.find?_cons, List.any_cons]
    cases hp : p x with
    | true => rfl
    | false => exact ih
theorem getK_any {kvs : List (L2.Key × D)} {k : L2.Key} : (getK kvs k).isSome = kvs.any fun kv => decide (kv.1 = k) := by
  unfold getK
  rw [Option.isSome_map]
  exact find_any _ _
theorem any_kvD (B : List Pr) (a : Int) : ((B.map kvD).any fun kv => decide (kv.1 = (Sum.inl a : L2.Key))) = B.any fun q => decide (q.1 = a) := by
  rw [List.any_map]
  congr 1
  funext q
  show decide ((Sum.inl q.1 : L2.Key) = Sum.inl a) = _
  exact decide_eq_decide.mpr ⟨fun e => by cases e; rfl, fun e => by rw [e]⟩
theorem getK_B {B : List Pr} {a : Int} : getK (B.map kvD) (Sum.inl a) = (B.find? fun q => decide (q.1 = a)).map fun q => D.p (.int q.2) := by
  unfold getK
  rw [List.find?_map]
  have e : ((fun kv : L2.Key × D => decide (kv.1 = (Sum.inl a : L2.Key))) ∘ kvD) = fun q : Pr => decide (q.1 = a) := by
    funext q
    show decide ((Sum.inl q.1 : L2.Key) = Sum.inl a) = _
    exact decide_eq_decide.mpr ⟨fun e => by cases e; rfl, fun e => by rw [e]⟩
  rw [e]
  cases B.find? fun q => decide (q.1 = a) <;> rfl
theorem find_B {B : List Pr} {top : Int} (h : Blk B top) {x : Pr} (hx : x ∈ B) : (B.find? fun q => decide (q.1 = x.1)) = some x := by
  cases e : B.find? fun q => decide (q.1 = x.1) with
  | none =>
    have := List.find?_eq_none.mp e x hx
    simp at this
  | some y =>
    have h1 := List.find?_some e
    have h2 := List.mem_of_find?_eq_some e
    rw [blk_same h h2 hx (of_decide_eq_true h1)]
theorem find_B_none {B : List Pr} {a : Int} (h : ∀ q ∈ B, q.1 ≠ a) : (B.find? fun q => decide (q.1 = a)) = none := List.find?_eq_none.mpr fun q hq => by simpa using h q hq
theorem put_B {B : List Pr} {a z : Int} (h : ∀ q ∈ B, q.1 ≠ a) : putD (B.map kvD) (Sum.inl a) (.p (.int z)) = (B ++ [(a, z)]).map kvD := by
  unfold putD
  rw [any_kvD, if_neg (by rw [Bool.not_eq_true, List.any_eq_false]; intro q hq; simpa using h q hq), List.map_append]
  rfl
theorem del_B (B : List Pr) (a : Int) : ((B.map kvD).filter fun kv => decide (kv.1 ≠ (Sum.inl a : L2.Key))) = (wout B a).map kvD := by
  unfold wout
  rw [List.filter_map]
  congr 2
  funext q
  show decide ((Sum.inl q.1 : L2.Key) ≠ Sum.inl a) = decide (q.1 ≠ a)
  exact decide_eq_decide.mpr ⟨fun h e => h (by rw [e]), fun h e => h (by cases e; rfl)⟩
theorem mem_B (B : List Pr) (a : Int) : (getK (B.map kvD) (Sum.inl a)).isSome = B.any fun q => decide (q.1 = a) := by
  rw [getK_any, any_kvD]
/-- sorted blocks, by their addresses -/
theorem sort_keys {B : List Pr} {top : Int} (h : Blk B top) : (sortI (B.map (·.1))).map (fun a => (a, (((B.find? fun q => decide (q.1 = a)).map (·.2)).getD 0 : Int))) = sortII B := by
  have hp := sortB_perm ltI (B.map (·.1))
  have key : ∀ q ∈ B, ((fun a : Int => (a, (((B.find? fun q => decide (q.1 = a)).map (·.2)).getD 0 : Int))) q.1) = q := fun q hq => by
    show (q.1, _) = q
    rw [find_B h hq]
    rfl
  refine sortII_of ?_ ?_
  · have := hp.map (fun a => (a, (((B.find? fun q => decide (q.1 = a)).map (·.2)).getD 0 : Int)))
    refine this.trans (.of_eq ?_)
    rw [List.map_map]
    refine (List.map_congr_left fun q hq => ?_).trans (List.map_id B)
    exact key q hq
  · refine List.pairwise_map.mpr ?_
    have hs : (sortI (B.map (·.1))).Pairwise fun x y => ltI y x = false := sortB_sorted ltI_swo _
    have nd : (sortI (B.map (·.1))).Nodup := hp.nodup_iff.mpr (List.pairwise_map.mpr (blk_ne h))
    refine (hs.and nd).imp fun {x y} ⟨h1, h2⟩ => ?_
    refine SrtO.lexB_no.mpr fun z => ?_
    have h1 := of_decide_eq_false (p := y < x) h1
    dsimp only at z
    rcases z with z | z
    · omega
    · exact h2 z.1.symm
/-! ### who owns a word -/
theorem getK_put {kvs : List (L2.Key × D)} {k k' : L2.Key} {v : D} : (getK (putD kvs k v) k').isSome = (decide (k' = k) || (getK kvs k').isSome) := by
  have e : ∀ l : List (L2.Key × D), (getK l k').isSome = l.any fun kv => decide (kv.1 = k') := fun l => getK_any
  rw [e, e]
  unfold putD
  split
  · rename_i hk
    rw [List.any_map]
    have : ((fun kv : L2.Key × D => decide (kv.1 = k')) ∘ fun kv => if kv.1 = k then (kv.1, v) else kv) = fun kv => decide (kv.1 = k') := by
      funext kv
      show decide ((if kv.1 = k then (kv.1, v) else kv).1 = k') = _
      split <;> rfl
    rw [this]
    by_cases c : k' = k
    · subst c
      rw [hk, Bool.or_true]
    · rw [decide_eq_false c, Bool.false_or]
  · rw [List.any_append, Bool.or_comm]
    congr 1
    show (decide (k = k') || false) = decide (k' = k)
    rw [Bool.or_false]
    exact decide_eq_decide.mpr ⟨Eq.symm, Eq.symm⟩
theorem getK_del {kvs : List (L2.Key × D)} {k k' : L2.Key} : (getK (kvs.filter fun kv => decide (kv.1 ≠ k)) k').isSome = (decide (k' ≠ k) && (getK kvs k').isSome) := by
  have e : ∀ l : List (L2.Key × D), (getK l k').isSome = l.any fun kv => decide (kv.1 = k') := fun l => getK_any
  rw [e, e, List.any_filter]
  by_cases c : k' = k
  · subst c
    rw [decide_eq_false (by simp), Bool.false_and, List.any_eq_false]
    intro kv _
    simp
  · rw [decide_eq_true c, Bool.true_and]
    congr 1
    funext kv
    by_cases c2 : kv.1 = k'
    · rw [decide_eq_true c2, Bool.and_true, decide_eq_true (by rw [c2]; exact c)]
    · rw [decide_eq_false c2, Bool.and_false]
theorem len_put {kvs : List (L2.Key × D)} {k : L2.Key} {v : D} : (putD kvs k v).length ≤ kvs.length + 1 := by
  unfold putD
  split
  · rw [List.length_map]; omega
  · rw [List.length_append, List.length_singleton]; omega
end K85
/-! the heap: its methods -/
namespace K85
open PySem PySem.Spec PyProof.Rows L2 Dz
def hI (pol : Str) (u h l : Int) : MO := .ins "Heap" [("policy", .p (.str pol)), ("unit", .p (.int u)), ("given", .loc 2), ("gaps", .loc 3), ("height", .p (.int h)), ("behind_last", .p (.int l))]
def gvO (B : List Pr) : MO := .dic (B.map kvD)
def pD (q : Pr) : D := .p (pairP q)
def gpO (G : List Pr) : MO := .lst (G.map pD)
def HS (m : MO) (pol : Str) (u h l : Int) (B G : List Pr) (R : List MO) : Option (List MO) := some (m :: hI pol u h l :: gvO B :: gpO G :: R)
section
variable {m : MO} {pol : Str} {u h l : Int} {B G : List Pr} {R : List MO} {sl : List Sl} {go g : Ev} {d : D}
theorem ef_pol (h0 : EvD go ⟨sl, HS m pol u h l B G R⟩ (.loc 1)) : EvD (fldE CT "policy" go) ⟨sl, HS m pol u h l B G R⟩ (.p (.str pol)) := by unfold EvD fldE; rw [bnd_ok h0]; rfl
theorem ef_unit (h0 : EvD go ⟨sl, HS m pol u h l B G R⟩ (.loc 1)) : EvI (fldE CT "unit" go) ⟨sl, HS m pol u h l B G R⟩ u := by unfold EvI fldE; rw [bnd_ok h0]; rfl
theorem ef_given (h0 : EvD go ⟨sl, HS m pol u h l B G R⟩ (.loc 1)) : EvD (fldE CT "given" go) ⟨sl, HS m pol u h l B G R⟩ (.loc 2) := by unfold EvD fldE; rw [bnd_ok h0]; rfl
theorem ef_gaps (h0 : EvD go ⟨sl, HS m pol u h l B G R⟩ (.loc 1)) : EvD (fldE CT "gaps" go) ⟨sl, HS m pol u h l B G R⟩ (.loc 3) := by unfold EvD fldE; rw [bnd_ok h0]; rfl
theorem ef_height (h0 : EvD go ⟨sl, HS m pol u h l B G R⟩ (.loc 1)) : EvI (fldE CT "height" go) ⟨sl, HS m pol u h l B G R⟩ h := by unfold EvI fldE; rw [bnd_ok h0]; rfl
theorem ef_last (h0 : EvD go ⟨sl, HS m pol u h l B G R⟩ (.loc 1)) : EvI (fldE CT "behind_last" go) ⟨sl, HS m pol u h l B G R⟩ l := by unfold EvI fldE; rw [bnd_ok h0]; rfl
theorem ef_ngaps (h0 : EvD go ⟨sl, HS m pol u h l B G R⟩ (.loc 1)) : EvI (bnd (asPk (fldE CT "gaps" go)) (fnK lenP)) ⟨sl, HS m pol u h l B G R⟩ G.length := by
  have := ed_len (d := .loc 3) (ds := G.map pD) (ep_as (ef_gaps h0)) rfl
  rw [List.length_map] at this
  exact this
theorem atI_nat {α : Type} {xs : List α} {i : Nat} (hi : i < xs.length) : atI xs (i : Int) = some xs[i] := by
  unfold atI ixN
  rw [if_pos (by omega), if_pos (by omega)]
  show xs[((i : Nat) : Int).toNat]? = _
  rw [Int.toNat_natCast, List.getElem?_eq_getElem hi]
theorem ix_gap {i : Nat} (hi : i < G.length) : ixO (.loc 3) (.p (.int i)) ⟨sl, HS m pol u h l B G R⟩ = some (pD G[i]) := by
  show atI (G.map pD) i = _
  rw [atI_nat (by rw [List.length_map]; exact hi), List.getElem_map]
theorem ef_gap {i : Nat} (h0 : EvD go ⟨sl, HS m pol u h l B G R⟩ (.loc 1)) (hg : EvI g ⟨sl, HS m pol u h l B G R⟩ i) (hi : i < G.length) : EvD (bnd2 (fldE CT "gaps" go) g ixD) ⟨sl, HS m pol u h l B G R⟩ (pD G[i]) := ed_ix (ef_gaps h0) hg (ix_gap hi)
theorem ef_gap0 {i : Nat} (h0 : EvD go ⟨sl, HS m pol u h l B G R⟩ (.loc 1)) (hg : EvI g ⟨sl, HS m pol u h l B G R⟩ i) (hi : i < G.length) : EvI (bnd2 (bnd2 (fldE CT "gaps" go) g ixD) (cst (.p (.int 0))) ixD) ⟨sl, HS m pol u h l B G R⟩ G[i].1 := ed_ix (ef_gap h0 hg hi) ed_cst ix_t0
theorem ef_gap1 {i : Nat} (h0 : EvD go ⟨sl, HS m pol u h l B G R⟩ (.loc 1)) (hg : EvI g ⟨sl, HS m pol u h l B G R⟩ i) (hi : i < G.length) : EvI (bnd2 (bnd2 (fldE CT "gaps" go) g ixD) (cst (.p (.int 1))) ixD) ⟨sl, HS m pol u h l B G R⟩ G[i].2 := ed_ix (ef_gap h0 hg hi) ed_cst ix_t1
theorem meth_ok {mn : Str} {mo : Fn} {fa : Sta → Res (List D)} {ds : List D} {s' : Sta} (h0 : EvD go ⟨sl, HS m pol u h l B G R⟩ (.loc 1)) (hi : isIns "Heap" mn (.loc 1) ⟨sl, HS m pol u h l B G R⟩ = true) (hfa : fa ⟨sl, HS m pol u h l B G R⟩ = .ok ds ⟨sl, HS m pol u h l B G R⟩) (he : mo (.loc 1 :: ds) (HS m pol u h l B G R) = .ok d s') :
    methE "Heap" mn mo go fa ⟨sl, HS m pol u h l B G R⟩ = .ok d ⟨sl, s'.st⟩ := by
  unfold methE
  rw [bnd_ok h0, if_pos hi, bnd_ok hfa]
  unfold runM
  rw [he]
/-! ### size_for -/
def sz (u many : Int) : Int := ((if 1 > many then 1 else many) + u - 1).fdiv u * u
def HU (u : Int) : Prop := u = 1 ∨ u = 2 ∨ u = 4 ∨ u = 8
theorem sz_le {u many : Int} (hu : HU u) (h0 : 0 ≤ many) (h1 : many ≤ 40) : 1 ≤ sz u many ∧ sz u many ≤ 40 ∧ many ≤ sz u many := by
  unfold sz
  rw [Int.fdiv_eq_ediv_of_nonneg _ (by rcases hu with rfl | rfl | rfl | rfl <;> decide)]
  rcases hu with rfl | rfl | rfl | rfl <;> (split <;> omega)
theorem size_for_ok {many : Int} (hu : HU u) : m_Heap_size_for [.loc 1, .p (.int many)] (HS m pol u h l B G R) = .ok (.p (.int (sz u many))) ⟨[.v (.loc 1), .v (.p (.int many)), .v (.p (.int (((if 1 > many then 1 else many) + u - 1).fdiv u)))], HS m pol u h l B G R⟩ := by
  refine runD_ret rfl ?_
  show g_Heap_size_for ⟨[.v (.loc 1), .v (.p (.int many)), .un], HS m pol u h l B G R⟩ = _
  unfold g_Heap_size_for
  have hu0 : (decide (u ≠ 0) && decide (u.natAbs < 1073741824)) = true := by rcases hu with rfl | rfl | rfl | rfl <;> decide
  have hul : -(2 ^ 64) < u ∧ u < 2 ^ 64 := by rcases hu with rfl | rfl | rfl | rfl <;> decide
  rw [seqS_nx (es_set (d := .p (.int (((if 1 > many then 1 else many) + u - 1).fdiv u))) (ed_fdiv (ed_sub (ed_add (ed_max (i := many) (j := 1) (ed_rd rfl) ed_cst) (ef_unit (ed_rd rfl))) ed_cst) (ef_unit (ed_rd rfl)) hu0))]
  exact es_ret (ed_mul (i := ((if 1 > many then 1 else many) + u - 1).fdiv u) (ed_rd rfl) (ef_unit (ed_rd rfl)) (cMul_r hul.1 hul.2))
end
end K85
namespace K85
open PySem PySem.Spec PyProof.Rows L2 Dz
section
variable {m : MO} {pol : Str} {u h l : Int} {B G : List Pr} {R : List MO} {sl : List Sl} {go : Ev} {d : D}
def gat (G : List Pr) (i : Nat) : Pr := G.getD i (0, 0)
theorem gat_at {i : Nat} (hi : i < G.length) : gat G i = G[i] := by unfold gat; rw [List.getD_eq_getElem?_getD, List.getElem?_eq_getElem hi]; rfl
def natD (i : Nat) : D := .p (.int i)
theorem smallest_ok {fi : List Nat} {i0 : Nat} (hf : ∀ i ∈ i0 :: fi, i < G.length) : ∃ d s, m_Heap_smallest_gap [.loc 1, .p (.lst ((i0 :: fi).map fun i => P.int (i : Nat)))] (HS m pol u h l B G R) = .ok d s ∧ ∃ j ∈ i0 :: fi, d = .p (.int (j : Nat)) ∧ gat G j = minG ((i0 :: fi).map (gat G)) (gat G i0) ∧ s.st = HS m pol u h l B G R := by
  refine run_wp (R := fun d s => ∃ j ∈ i0 :: fi, d = .p (.int (j : Nat)) ∧ gat G j = minG ((i0 :: fi).map (gat G)) (gat G i0) ∧ s.st = HS m pol u h l B G R) rfl ?_
  generalize hL : (D.p (.lst ((i0 :: fi).map fun i => P.int (i : Nat)))) = L
  show Wp (g_Heap_smallest_gap ⟨[.v (.loc 1), .v L, .un, .un], HS m pol u h l B G R⟩) _
  unfold g_Heap_smallest_gap
  have hix : ixO L (.p (.int 0)) ⟨[.v (.loc 1), .v L, .un, .un], HS m pol u h l B G R⟩ = some (.p (.int i0)) := by
    rw [← hL]; exact ix_lst (n := 0) (by simp)
  refine wp_seq (wp_set (d := .p (.int i0)) (ed_ixV rfl ed_cst hix) ?_)
  have hw : immOf L = some (((i0 :: fi).map fun i => P.int (i : Nat)).map .p) := by rw [← hL]; rfl
  have e1 : (((i0 :: fi).map fun i => P.int (i : Nat)).map D.p) = (i0 :: fi).map natD := by rw [List.map_map]; rfl
  refine wp_seq (wp_forR (toD := natD) (xs := i0 :: fi) (s1 := ⟨[.v (.loc 1), .v L, .v (.p (.int i0)), .un], HS m pol u h l B G R⟩)
    (fun rest s => ∃ (j : Nat) (c : Sl), s = ⟨[.v (.loc 1), .v L, .v (.p (.int j)), c], HS m pol u h l B G R⟩ ∧ j ∈ i0 :: fi ∧ (∀ x ∈ rest, x ∈ i0 :: fi) ∧ minG (rest.map (gat G)) (gat G j) = minG ((i0 :: fi).map (gat G)) (gat G i0))
    (by have := ei_walk (f := rd 1) (s := ⟨[.v (.loc 1), .v L, .v (.p (.int i0)), .un], HS m pol u h l B G R⟩) (ed_rd rfl) hw; rw [e1] at this; exact this)
    ⟨i0, _, rfl, List.mem_cons_self .., fun x hx => hx, rfl⟩ (fun x rest s hs => ?_) fun s hs => ?_)
  · obtain ⟨j, c, rfl, hj, hr, hm⟩ := hs
    have hx : x ∈ i0 :: fi := hr x (List.mem_cons_self ..)
    refine ⟨⟨[.v (.loc 1), .v L, .v (.p (.int j)), .v (natD x)], HS m pol u h l B G R⟩, rfl, ?_⟩
    have s1 := hf x hx
    have s2 := hf j hj
    have hm2 : minG (rest.map (gat G)) (if (gat G x).2 < (gat G j).2 then gat G x else gat G j) = minG ((i0 :: fi).map (gat G)) (gat G i0) := hm
    rw [gat_at s1, gat_at s2] at hm2
    refine wp_if (et_b (eb_lt (ef_gap1 (i := x) (ed_rd rfl) (ed_rd rfl) s1) (ef_gap1 (i := j) (ed_rd rfl) (ed_rd rfl) s2))) (fun b => ?_) fun b => wp_skip ⟨j, _, rfl, hj, fun y hy => hr y (List.mem_cons_of_mem _ hy), ?_⟩
    · rw [if_pos (of_decide_eq_true b)] at hm2
      refine wp_set (d := .p (.int x)) (ed_rd rfl) ⟨x, .v (natD x), rfl, hx, fun y hy => hr y (List.mem_cons_of_mem _ hy), ?_⟩
      rw [gat_at s1]; exact hm2
    · rw [if_neg (of_decide_eq_false b)] at hm2
      rw [gat_at s2]; exact hm2
  · obtain ⟨j, c, rfl, hj, _, hm⟩ := hs
    exact wp_ret (d := .p (.int j)) (ed_rd rfl) ⟨j, hj, rfl, hm, rfl⟩
/-- the pieces that are great enough -/
def fits (z : Int) (G : List Pr) : List Pr := G.filter fun q => decide (z ≤ q.2)
def fitI (z : Int) (G : List Pr) : List Nat := (List.range G.length).filter fun i => decide (z ≤ (gat G i).2)
theorem range_gat : ∀ G : List Pr, (List.range G.length).map (gat G) = G := fun G => by
  apply List.ext_getElem?
  intro i
  rw [List.getElem?_map]
  by_cases hi : i < G.length
  · rw [List.getElem?_range hi, List.getElem?_eq_getElem hi, Option.map_some, gat_at hi]
  · rw [List.getElem?_eq_none (by rw [List.length_range]; omega), List.getElem?_eq_none (by omega)]; rfl
theorem fit_map (z : Int) (G : List Pr) : (fitI z G).map (gat G) = fits z G := by
  unfold fitI fits
  conv => rhs; rw [← range_gat G]
  rw [List.filter_map]
  rfl
theorem fit_lt {z : Int} {i : Nat} (h : i ∈ fitI z G) : i < G.length ∧ z ≤ (gat G i).2 := by
  obtain ⟨h1, h2⟩ := List.mem_filter.mp h
  exact ⟨List.mem_range.mp h1, of_decide_eq_true h2⟩
/-- no piece, or the one that is picked -/
def Gap (pol : Str) (z l : Int) (G : List Pr) (i : Int) : Prop :=
  (i = -1 ∧ (pol = "bump" ∨ fits z G = [])) ∨ ∃ (j : Nat) (q : Pr) (F : List Pr), i = j ∧ pol ≠ "bump" ∧ j < G.length ∧ z ≤ G[j]!.2 ∧ fits z G = q :: F ∧ G[j]! = pickP pol l (q :: F) q
theorem eqP_str {x y : Str} : eqP (.str x) (.str y) = decide (x = y) := by
  show (x == y) = _
  by_cases e : x = y
  · rw [decide_eq_true e, e]; exact beq_self_eq_true y
  · rw [decide_eq_false e]; exact beq_false_of_ne e
theorem eb_pol {x : Str} (h0 : EvD go ⟨sl, HS m pol u h l B G R⟩ (.loc 1)) : EvB (bnd2 (fldE CT "policy" go) (cst (.p (.str x))) eqD) ⟨sl, HS m pol u h l B G R⟩ (decide (pol = x)) := by
  rw [← eqP_str]; exact eb_eq (ef_pol h0) ed_cst (by show min 0 0 ≤ 60; decide)
theorem get_bang {j : Nat} (hj : j < G.length) : G[j]! = gat G j := by rw [gat_at hj]; exact getElem!_pos G j hj
theorem gap_for_ok {z : Int} (hG : G.length ≤ 1000) : ∃ d s, m_Heap_gap_for [.loc 1, .p (.int z)] (HS m pol u h l B G R) = .ok d s ∧ ∃ i : Int, d = .p (.int i) ∧ Gap pol z l G i ∧ s.st = HS m pol u h l B G R := by
  have hsz : sizeLine = 16777216 := rfl
  refine run_wp (R := fun d s => ∃ i : Int, d = .p (.int i) ∧ Gap pol z l G i ∧ s.st = HS m pol u h l B G R) rfl ?_
  show Wp (g_Heap_gap_for ⟨[.v (.loc 1), .v (.p (.int z)), .un, .un], HS m pol u h l B G R⟩) _
  unfold g_Heap_gap_for
  refine wp_seq (wp_if (et_b (eb_pol (ed_rd rfl))) (fun b => ?_) fun b => wp_skip ?_)
  · exact wp_ret (d := k_NO_PIECE) ed_cst ⟨-1, rfl, .inl ⟨rfl, .inl (of_decide_eq_true b)⟩, rfl⟩
  have nb : pol ≠ "bump" := of_decide_eq_false b
  -- the pieces that fit
  have hc : lcF (bnd (consA (bnd (asPk (fldE CT "gaps" (rd 0))) (fnK lenP)) nilA) rng1) [3] (nameG 3) (bnd (bnd2 (bnd2 (bnd2 (fldE CT "gaps" (rd 0)) (rd 3) ixD) (cst (.p (.int 1))) ixD) (rd 1) geD) isBl) (rd 3) ⟨[.v (.loc 1), .v (.p (.int z)), .un, .un], HS m pol u h l B G R⟩
      = .ok (.lst ((fitI z G).map fun i => P.int (0 + (i : Nat)))) ⟨[.v (.loc 1), .v (.p (.int z)), .un, .un], HS m pol u h l B G R⟩ := by
    refine lcF_pure (toD := fun i : Nat => D.p (.int (0 + (i : Nat)))) (xs := List.range G.length) (s1 := ⟨[.v (.loc 1), .v (.p (.int z)), .un, .un], HS m pol u h l B G R⟩) (fun i => decide (z ≤ (gat G i).2)) (fun i => P.int (0 + (i : Nat)))
      (ei_rng1 (j := (G.length : Nat)) (ea_cons (ef_ngaps (ed_rd rfl)) ea_nil) (by omega) (by omega)) (fun x hx => ?_) (by rw [List.length_range]; omega)
    have hx := List.mem_range.mp hx
    refine ⟨⟨[.v (.loc 1), .v (.p (.int z)), .un, .v (.p (.int (0 + (x : Nat))))], HS m pol u h l B G R⟩, rfl, rfl, ?_, fun _ => ed_rd rfl⟩
    rw [gat_at hx]
    refine et_b (eb_ge (j := z) (ef_gap1 (i := x) (ed_rd rfl) ?_ hx) (ed_rd rfl))
    rw [Int.zero_add]; exact ed_rd rfl
  have e0 : (fun i : Nat => P.int (0 + (i : Nat))) = fun i : Nat => P.int (i : Nat) := by funext i; rw [Int.zero_add]
  rw [e0] at hc
  refine wp_seq (wp_setL hc ?_)
  dsimp only
  have hfm := fit_map z G
  cases hfi : fitI z G with
  | nil =>
    refine wp_seq (wp_if (b := true) (s1 := ⟨[.v (.loc 1), .v (.p (.int z)), .lin (.lst []), .un], HS m pol u h l B G R⟩) rfl (fun _ => ?_) fun b => by cases b)
    rw [hfi] at hfm
    exact wp_ret (d := k_NO_PIECE) ed_cst ⟨-1, rfl, .inl ⟨rfl, .inr hfm.symm⟩, rfl⟩
  | cons i0 fi =>
    have hlt : ∀ i ∈ i0 :: fi, i < G.length := fun i hi => (fit_lt (by rw [hfi]; exact hi)).1
    have hge : ∀ i ∈ i0 :: fi, z ≤ (gat G i).2 := fun i hi => (fit_lt (by rw [hfi]; exact hi)).2
    rw [hfi, List.map_cons] at hfm
    have fin : ∀ j ∈ i0 :: fi, gat G j = pickP pol l (gat G i0 :: fi.map (gat G)) (gat G i0) → Gap pol z l G j := fun j hj e => by
      have := hlt j hj
      exact .inr ⟨j, gat G i0, fi.map (gat G), rfl, nb, this, by rw [get_bang this]; exact hge j hj, hfm.symm, by rw [get_bang this]; exact e⟩
    generalize hV : (Lin.lst ((i0 :: fi).map fun i => P.int (i : Nat))) = V
    have hV2 : frozen V = .p (.lst ((i0 :: fi).map fun i => P.int (i : Nat))) := by rw [← hV]; rfl
    refine wp_seq (wp_if (b := false) (s1 := ⟨[.v (.loc 1), .v (.p (.int z)), .lin V, .un], HS m pol u h l B G R⟩) (by rw [← hV]; rfl) (fun b => by cases b) fun _ => wp_skip ?_)
    dsimp only
    refine wp_seq (wp_if (et_b (eb_pol (ed_rd rfl))) (fun b => ?_) fun b => wp_skip ?_)
    · have b := of_decide_eq_true b
      obtain ⟨d, s', e, j, hj, rfl, hm, hst⟩ := smallest_ok (m := m) (pol := pol) (u := u) (h := h) (l := l) (B := B) (R := R) hlt
      have ea : consA (rd 2) nilA ⟨[.v (.loc 1), .v (.p (.int z)), .lin V, .un], HS m pol u h l B G R⟩ = .ok [.p (.lst ((i0 :: fi).map fun i => P.int (i : Nat)))] ⟨[.v (.loc 1), .v (.p (.int z)), .v (.p (.lst ((i0 :: fi).map fun i => P.int (i : Nat)))), .un], HS m pol u h l B G R⟩ := by
        rw [← hV]; rfl
      have hme : methE "Heap" "smallest_gap" m_Heap_smallest_gap (rd 0) (consA (rd 2) nilA) ⟨[.v (.loc 1), .v (.p (.int z)), .lin V, .un], HS m pol u h l B G R⟩ = .ok (.p (.int j)) ⟨[.v (.loc 1), .v (.p (.int z)), .v (.p (.lst ((i0 :: fi).map fun i => P.int (i : Nat)))), .un], HS m pol u h l B G R⟩ := by
        unfold methE
        rw [bnd_ok (ed_rd (n := 0) (d := .loc 1) rfl), if_pos (show isIns "Heap" "smallest_gap" (.loc 1) _ = true from rfl), bnd_ok ea]
        unfold runM
        rw [e]
        dsimp only
        rw [hst]
      refine wp_retB hme ⟨j, rfl, fin j hj ?_, rfl⟩
      unfold pickP
      rw [if_pos b, hm]
      rfl
    have nbest : pol ≠ "best" := of_decide_eq_false b
    have efrz : rd 2 ⟨[.v (.loc 1), .v (.p (.int z)), .lin V, .un], HS m pol u h l B G R⟩ = .ok (.p (.lst ((i0 :: fi).map fun i => P.int (i : Nat)))) ⟨[.v (.loc 1), .v (.p (.int z)), .v (.p (.lst ((i0 :: fi).map fun i => P.int (i : Nat)))), .un], HS m pol u h l B G R⟩ := by
      rw [← hV]; rfl
    have last : ∀ (s2 c : Sl), (s2 = .lin V ∨ s2 = .v (.p (.lst ((i0 :: fi).map fun i => P.int (i : Nat))))) → pickP pol l (gat G i0 :: fi.map (gat G)) (gat G i0) = gat G i0 → Wp (bndS (ixV 2 (cst (.p (.int 0)))) retS ⟨[.v (.loc 1), .v (.p (.int z)), s2, c], HS m pol u h l B G R⟩) (RetO fun d s => ∃ i : Int, d = .p (.int i) ∧ Gap pol z l G i ∧ s.st = HS m pol u h l B G R) := fun s2 c hs2 hp => by
      refine wp_ret (d := .p (.int i0)) ?_ ⟨i0, rfl, fin i0 (List.mem_cons_self ..) hp.symm, rfl⟩
      rcases hs2 with rfl | rfl
      · rw [← hV]
        unfold EvD ixV
        have e : ixPk (.lin (.lst ((i0 :: fi).map fun i => P.int (i : Nat)))) (.p (.int 0)) ⟨[.v (.loc 1), .v (.p (.int z)), .lin (.lst ((i0 :: fi).map fun i => P.int (i : Nat))), c], HS m pol u h l B G R⟩ = some (.p (.int i0)) := by
          show (atI _ ((0 : Nat) : Int)).map _ = _
          rw [atI_nat (i := 0) (by simp)]
          rfl
        rw [bnd_ok (ep_lin (n := 2) rfl), bnd_ok (show cst _ _ = _ from rfl), bnd_ok (ep_lin (n := 2) rfl), e]
      · exact ed_ixV rfl ed_cst (ix_lst (n := 0) (by simp))
    refine wp_seq (wp_if (et_b (eb_pol (ed_rd rfl))) (fun b => ?_) fun b => wp_skip ?_)
    · have bn := of_decide_eq_true b
      have e1 : (((i0 :: fi).map fun i => P.int (i : Nat)).map D.p) = (i0 :: fi).map natD := by rw [List.map_map]; rfl
      have hpick : pickP pol l (gat G i0 :: fi.map (gat G)) (gat G i0) = (((i0 :: fi).map (gat G)).filter (fun r => decide (l ≤ r.1)) ++ (i0 :: fi).map (gat G)).headD (gat G i0) := by
        unfold pickP
        rw [if_neg nbest, if_pos bn]
        rfl
      refine wp_forR (toD := natD) (xs := i0 :: fi) (s1 := ⟨[.v (.loc 1), .v (.p (.int z)), .v (.p (.lst ((i0 :: fi).map fun i => P.int (i : Nat)))), .un], HS m pol u h l B G R⟩)
        (fun rest s => ∃ c : Sl, s = ⟨[.v (.loc 1), .v (.p (.int z)), .v (.p (.lst ((i0 :: fi).map fun i => P.int (i : Nat)))), c], HS m pol u h l B G R⟩ ∧ (∀ x ∈ rest, x ∈ i0 :: fi) ∧ ((i0 :: fi).map (gat G)).filter (fun r => decide (l ≤ r.1)) = (rest.map (gat G)).filter (fun r => decide (l ≤ r.1)))
        (by rw [bnd_ok efrz, ← e1]; rfl) ⟨_, rfl, fun x hx => hx, rfl⟩ (fun x rest s hs => ?_) fun s hs => ?_
      · obtain ⟨c, rfl, hr, hfl⟩ := hs
        have hx : x ∈ i0 :: fi := hr x (List.mem_cons_self ..)
        have s1 := hlt x hx
        refine ⟨⟨[.v (.loc 1), .v (.p (.int z)), .v (.p (.lst ((i0 :: fi).map fun i => P.int (i : Nat)))), .v (natD x)], HS m pol u h l B G R⟩, rfl, ?_⟩
        have hfl : ((i0 :: fi).map (gat G)).filter (fun r => decide (l ≤ r.1)) = (gat G x :: rest.map (gat G)).filter (fun r => decide (l ≤ r.1)) := hfl
        refine wp_if (et_b (eb_ge (j := l) (ef_gap0 (i := x) (ed_rd rfl) (ed_rd rfl) s1) (ef_last (ed_rd rfl)))) (fun b => ?_) fun b => wp_skip ⟨_, rfl, fun y hy => hr y (List.mem_cons_of_mem _ hy), ?_⟩
        · refine wp_ret (d := .p (.int x)) (ed_rd rfl) ⟨x, rfl, fin x hx ?_, rfl⟩
          rw [hpick, hfl, List.filter_cons_of_pos (by rw [gat_at s1]; exact b)]
          rfl
        · rw [hfl, List.filter_cons_of_neg (by rw [gat_at s1, b]; decide)]
      · obtain ⟨c, rfl, _, hfl⟩ := hs
        refine last _ c (.inr rfl) ?_
        rw [hpick, hfl]
        rfl
    · have nn : pol ≠ "next" := of_decide_eq_false b
      refine last _ _ (.inl rfl) ?_
      unfold pickP
      rw [if_neg nbest, if_neg nn]
end
end K85
namespace K85
open PySem PySem.Spec PyProof.Rows L2 Dz
section
variable {m : MO} {pol : Str} {u h l : Int} {B G : List Pr} {R : List MO} {sl : List Sl} {go gi gl gh : Ev} {d k v : D} {s s1 s2 : Sta} {Q : Po}
theorem ixN_nat {n i : Nat} (h : i < n) : ixN n (i : Int) = some i := by
  unfold ixN
  rw [if_pos (by omega), if_pos (by omega), Int.toNat_natCast]
theorem ed_pair {f g : Ev} {i j : Int} (hf : EvI f s i) (hg : EvI g s j) : EvD (bnd (consA f (consA g nilA)) mkTup) s (pD (i, j)) := by
  unfold EvD; rw [bnd_ok (ea_cons hf (ea_cons hg ea_nil))]; rfl
theorem sub_ok (h1 : EvD go s d) (h2 : EvD gi s k) (h3 : setS d k v s = some s2) : subG go gi v s = some s2 := by
  unfold subG
  rw [show go s = .ok d s from h1]
  dsimp only
  rw [show gi s = .ok k s from h2]
  exact h3
theorem wp_delS (h1 : EvD go s d) (h2 : EvD gi s k) (h3 : delAt d k s = some s2) (h : Q.nx s2) : Wp (delS go gi s) Q := by
  unfold delS
  rw [bndS_ok (show go s = .ok d s from h1), bndS_ok (show gi s = .ok k s from h2), h3]
  exact h
theorem wp_fldS {f : Str} {gv : Ev} (h1 : gv s = .ok v s1) (h2 : EvD go s1 d) (h3 : setFD CT f d v s1 = some s2) (h : Q.nx s2) : Wp (fldS CT f go gv s) Q := by
  unfold fldS
  rw [bndS_ok h1, bndS_ok (show go s1 = .ok d s1 from h2), h3]
  exact h
theorem set_gap {i : Nat} {q : Pr} (hi : i < G.length) : setS (.loc 3) (.p (.int i)) (pD q) ⟨sl, HS m pol u h l B G R⟩ = some ⟨sl, HS m pol u h l B (G.set i q) R⟩ := by
  show (ixN (G.map pD).length (i : Int)).map _ = _
  rw [ixN_nat (by rw [List.length_map]; exact hi)]
  show some (⟨sl, some (m :: hI pol u h l :: gvO B :: .lst ((G.map pD).set i (pD q)) :: R)⟩ : Sta) = _
  rw [← List.map_set]
  rfl
theorem del_gap {i : Nat} (hi : i < G.length) (hz : G.length ≤ 1000) : delAt (.loc 3) (.p (.int i)) ⟨sl, HS m pol u h l B G R⟩ = some ⟨sl, HS m pol u h l B (G.eraseIdx i) R⟩ := by
  have hsz : sizeLine = 16777216 := rfl
  show (if (G.map pD).length ≤ sizeLine then (ixN (G.map pD).length (i : Int)).map _ else none) = _
  rw [if_pos (by rw [List.length_map]; omega), ixN_nat (by rw [List.length_map]; exact hi)]
  show some (⟨sl, some (m :: hI pol u h l :: gvO B :: .lst ((G.map pD).eraseIdx i) :: R)⟩ : Sta) = _
  rw [← DT.map_erase]
  rfl
theorem cutG_at {i : Nat} {z : Int} (hi : i < G.length) : cutG G i z = if G[i].2 > z then G.set i (G[i].1 + z, G[i].2 - z) else G.eraseIdx i := by
  unfold cutG
  rw [List.drop_eq_getElem_cons hi]
  dsimp only
  rw [List.set_eq_take_append_cons_drop, if_pos hi, List.eraseIdx_eq_take_drop_succ]
theorem cut_ok {i : Nat} {z : Int} (hi : i < G.length) (hG : G.length ≤ 1000) : ∃ d s, m_Heap_cut [.loc 1, .p (.int i), .p (.int z)] (HS m pol u h l B G R) = .ok d s ∧ d = .p (.int G[i].1) ∧ s.st = HS m pol u h l B (cutG G i z) R := by
  refine run_wp (R := fun d s => d = .p (.int G[i].1) ∧ s.st = HS m pol u h l B (cutG G i z) R) rfl ?_
  show Wp (g_Heap_cut ⟨[.v (.loc 1), .v (.p (.int i)), .v (.p (.int z)), .un, .un], HS m pol u h l B G R⟩) _
  unfold g_Heap_cut
  refine wp_seq (wp_asg (s2 := ⟨[.v (.loc 1), .v (.p (.int i)), .v (.p (.int z)), .v (.p (.int G[i].1)), .v (.p (.int G[i].2))], HS m pol u h l B G R⟩) (ef_gap (i := i) (ed_rd rfl) (ed_rd rfl) hi) rfl ?_)
  refine wp_seq (wp_if (et_b (eb_gt (i := G[i].2) (j := z) (ed_rd rfl) (ed_rd rfl))) (fun b => ?_) fun b => ?_)
  · refine wp_asg (ed_pair (i := G[i].1 + z) (j := G[i].2 - z) (ed_add (i := G[i].1) (ed_rd rfl) (ed_rd rfl)) (ed_sub (i := G[i].2) (ed_rd rfl) (ed_rd rfl))) (sub_ok (ef_gaps (ed_rd rfl)) (ed_rd (d := .p (.int i)) rfl) (set_gap hi)) ?_
    dsimp only
    refine wp_ret (d := .p (.int G[i].1)) (ed_rd rfl) ⟨rfl, ?_⟩
    rw [cutG_at hi, if_pos (of_decide_eq_true b)]
  · refine wp_delS (ef_gaps (ed_rd rfl)) (ed_rd (d := .p (.int i)) rfl) (del_gap hi hG) ?_
    dsimp only
    refine wp_ret (d := .p (.int G[i].1)) (ed_rd rfl) ⟨rfl, ?_⟩
    have b := of_decide_eq_false b
    rw [cutG_at hi, if_neg b]
/-! ### take -/
/-- where a block of z words goes, what is left of the pieces, the height -/
def Took (pol : Str) (z h l : Int) (G : List Pr) (a : Int) (G' : List Pr) (h' : Int) : Prop :=
  ((pol = "bump" ∨ fits z G = []) ∧ a = h ∧ G' = G ∧ h' = h + z) ∨
  ∃ (j : Nat) (q : Pr) (F : List Pr), pol ≠ "bump" ∧ j < G.length ∧ z ≤ G[j]!.2 ∧ fits z G = q :: F ∧ G[j]! = pickP pol l (q :: F) q ∧ a = G[j]!.1 ∧ G' = cutG G j z ∧ h' = h
theorem set_given {a z : Int} (hB : B.length ≤ 1000) (hn : ∀ q ∈ B, q.1 ≠ a) : setS (.loc 2) (.p (.int a)) (.p (.int z)) ⟨sl, HS m pol u h l B G R⟩ = some ⟨sl, HS m pol u h l (B ++ [(a, z)]) G R⟩ := by
  have hsz : sizeLine = 16777216 := rfl
  show (if (B.map kvD).length < sizeLine then some (⟨sl, some (m :: hI pol u h l :: .dic (putD (B.map kvD) (Sum.inl a) (.p (.int z))) :: gpO G :: R)⟩ : Sta) else none) = _
  rw [if_pos (by rw [List.length_map]; omega), put_B hn]
  rfl
theorem take_ok {many : Int} (hu : HU u) (hG : G.length ≤ 1000) (hB : B.length ≤ 1000) (hn : ∀ a G' h', Took pol (sz u many) h l G a G' h' → ∀ q ∈ B, q.1 ≠ a) :
    ∃ d s, m_Heap_take [.loc 1, .p (.int many)] (HS m pol u h l B G R) = .ok d s ∧ ∃ a G' h', d = .p (.int a) ∧ Took pol (sz u many) h l G a G' h' ∧ s.st = HS m pol u h' (a + sz u many) (B ++ [(a, sz u many)]) G' R := by
  refine run_wp (R := fun d s => ∃ a G' h', d = .p (.int a) ∧ Took pol (sz u many) h l G a G' h' ∧ s.st = HS m pol u h' (a + sz u many) (B ++ [(a, sz u many)]) G' R) rfl ?_
  show Wp (g_Heap_take ⟨[.v (.loc 1), .v (.p (.int many)), .un, .un, .un], HS m pol u h l B G R⟩) _
  unfold g_Heap_take
  refine wp_seq (wp_setB (d := .p (.int (sz u many))) (meth_ok (ed_rd rfl) rfl (ea_cons (ed_rd (d := .p (.int many)) rfl) ea_nil) (size_for_ok hu)) ?_)
  dsimp only
  obtain ⟨_, s1, e1, i, rfl, hgap, est⟩ := gap_for_ok (m := m) (pol := pol) (u := u) (h := h) (l := l) (B := B) (R := R) (z := sz u many) hG
  generalize sz u many = z at *
  refine wp_seq (wp_setB (d := .p (.int i)) (s1 := ⟨[.v (.loc 1), .v (.p (.int many)), .v (.p (.int z)), .un, .un], s1.st⟩) (meth_ok (ed_rd rfl) rfl (ea_cons (ed_rd (d := .p (.int z)) rfl) ea_nil) e1) ?_)
  rw [est]
  dsimp only
  have eI : EvB (bnd2 (rd 3) (cst k_NO_PIECE) eqD) ⟨[.v (.loc 1), .v (.p (.int many)), .v (.p (.int z)), .v (.p (.int i)), .un], HS m pol u h l B G R⟩ (decide (i = -1)) := by
    have := eb_eq (y := .int i) (z := .int (-1)) (f := rd 3) (g := cst k_NO_PIECE) (s := ⟨[.v (.loc 1), .v (.p (.int many)), .v (.p (.int z)), .v (.p (.int i)), .un], HS m pol u h l B G R⟩) (ed_rd rfl) ed_cst (by show min 0 0 ≤ 60; decide)
    rw [show eqP (.int i) (.int (-1)) = decide (i = -1) from by show (i == -1) = _; by_cases e : i = -1 <;> simp [e]] at this
    exact this
  have fin : ∀ (a : Int) (G' : List Pr) (h' : Int), Took pol z h l G a G' h' → Wp (seqS (asgS (rd 2) (subG (fldE CT "given" (rd 0)) (rd 4))) (seqS (fldS CT "behind_last" (rd 0) (bnd2 (rd 4) (rd 2) addD)) (bndS (rd 4) retS)) ⟨[.v (.loc 1), .v (.p (.int many)), .v (.p (.int z)), .v (.p (.int i)), .v (.p (.int a))], HS m pol u h' l B G' R⟩)
      (RetO fun d s => ∃ a G' h', d = .p (.int a) ∧ Took pol z h l G a G' h' ∧ s.st = HS m pol u h' (a + z) (B ++ [(a, z)]) G' R) := fun a G' h' ht => by
    refine wp_seq (wp_asg (ed_rd (n := 2) (d := .p (.int z)) rfl) (sub_ok (ef_given (ed_rd rfl)) (ed_rd (d := .p (.int a)) rfl) (set_given hB (hn a G' h' ht))) ?_)
    dsimp only
    refine wp_seq (wp_fldS (s2 := ⟨[.v (.loc 1), .v (.p (.int many)), .v (.p (.int z)), .v (.p (.int i)), .v (.p (.int a))], HS m pol u h' (a + z) (B ++ [(a, z)]) G' R⟩) (ed_add (i := a) (j := z) (ed_rd rfl) (ed_rd rfl)) (ed_rd (d := .loc 1) rfl) rfl ?_)
    dsimp only
    exact wp_ret (d := .p (.int a)) (ed_rd rfl) ⟨a, G', h', rfl, ht, rfl⟩
  refine wp_seq (wp_if (et_b eI) (fun b => ?_) fun b => ?_)
  · have hi : i = -1 := of_decide_eq_true b
    refine wp_seq (wp_set (d := .p (.int h)) (ef_height (ed_rd rfl)) ?_)
    dsimp only
    refine wp_fldS (s2 := ⟨[.v (.loc 1), .v (.p (.int many)), .v (.p (.int z)), .v (.p (.int i)), .v (.p (.int h))], HS m pol u (h + z) l B G R⟩) (ed_add (i := h) (j := z) (ed_rd rfl) (ed_rd rfl)) (ed_rd (d := .loc 1) rfl) rfl ?_
    refine fin h G (h + z) (.inl ⟨?_, rfl, rfl, rfl⟩)
    rcases hgap with ⟨_, x⟩ | ⟨j, q, F, e, _⟩
    · exact x
    · omega
  · have hi : ¬ i = -1 := of_decide_eq_false b
    rcases hgap with ⟨x, _⟩ | ⟨j, q, F, e, nb, hj, hz, hF, hp⟩
    · exact (hi x).elim
    subst e
    obtain ⟨_, s2, e2, rfl, est2⟩ := cut_ok (m := m) (pol := pol) (u := u) (h := h) (l := l) (B := B) (R := R) (z := z) hj hG
    refine wp_setB (d := .p (.int G[j].1)) (s1 := ⟨[.v (.loc 1), .v (.p (.int many)), .v (.p (.int z)), .v (.p (.int j)), .un], s2.st⟩) (meth_ok (ed_rd rfl) rfl (ea_cons (ed_rd (d := .p (.int j)) rfl) (ea_cons (ed_rd (d := .p (.int z)) rfl) ea_nil)) e2) ?_
    rw [est2]
    refine fin _ _ _ (.inr ⟨j, q, F, nb, hj, hz, hF, hp, ?_, rfl, rfl⟩)
    rw [getElem!_pos G j hj]
end
end K85
namespace K85
open PySem PySem.Spec PyProof.Rows L2 Dz
section
variable {m : MO} {pol : Str} {u h l : Int} {B G : List Pr} {R : List MO} {sl : List Sl} {go gi gl gh f g : Ev} {d k v : D} {s s1 s2 : Sta} {Q : Po}
theorem eb_eqI {i j : Int} (hf : EvI f s i) (hg : EvI g s j) : EvB (bnd2 f g eqD) s (decide (i = j)) := by
  have := eb_eq (y := .int i) (z := .int j) hf hg (by show min 0 0 ≤ 60; decide)
  rw [show eqP (.int i) (.int j) = decide (i = j) from by show (i == j) = _; by_cases e : i = j <;> simp [e]] at this
  exact this
theorem mid_nat (a b : Nat) : ((a : Int) + (b : Int)).fdiv 2 = ((a + b) / 2 : Nat) := by
  rw [Int.fdiv_eq_ediv_of_nonneg _ (by decide)]; omega
theorem gat_mem_take {i : Nat} {q : Pr} (h : q ∈ G.take i) : ∃ j, j < i ∧ j < G.length ∧ gat G j = q := by
  obtain ⟨j, hj, e⟩ := List.mem_iff_getElem.mp h
  rw [List.length_take] at hj
  rw [List.getElem_take] at e
  exact ⟨j, by omega, by omega, by rw [gat_at (by omega)]; exact e⟩
theorem gat_mem_drop {i : Nat} {q : Pr} (h : q ∈ G.drop i) : ∃ j, i ≤ j ∧ j < G.length ∧ gat G j = q := by
  obtain ⟨j, hj, e⟩ := List.mem_iff_getElem.mp h
  rw [List.length_drop] at hj
  rw [List.getElem_drop] at e
  exact ⟨i + j, by omega, by omega, by rw [gat_at (by omega)]; exact e⟩
theorem gap_behind_ok {a lo : Int} (ho : Ok lo G) (hG : G.length ≤ 1000) : ∃ d s, m_Heap_gap_behind [.loc 1, .p (.int a)] (HS m pol u h l B G R) = .ok d s ∧ ∃ i : Nat, d = .p (.int i) ∧ i ≤ G.length ∧ (∀ q ∈ G.take i, q.1 < a) ∧ (∀ q ∈ G.drop i, a ≤ q.1) ∧ s.st = HS m pol u h l B G R := by
  refine run_wp (R := fun d s => ∃ i : Nat, d = .p (.int i) ∧ i ≤ G.length ∧ (∀ q ∈ G.take i, q.1 < a) ∧ (∀ q ∈ G.drop i, a ≤ q.1) ∧ s.st = HS m pol u h l B G R) rfl ?_
  show Wp (g_Heap_gap_behind ⟨[.v (.loc 1), .v (.p (.int a)), .un, .un, .un], HS m pol u h l B G R⟩) _
  unfold g_Heap_gap_behind
  refine wp_seq (wp_set (d := .p (.int ((0 : Nat) : Int))) ed_cst ?_)
  dsimp only
  refine wp_seq (wp_set (d := .p (.int (G.length : Nat))) (ef_ngaps (ed_rd rfl)) ?_)
  dsimp only
  have hfu : fuel = 1099511627776 := rfl
  refine wp_seq (wp_whileI (fun n s => ∃ (i j : Nat) (c : Sl), s = ⟨[.v (.loc 1), .v (.p (.int a)), .v (.p (.int i)), .v (.p (.int j)), c], HS m pol u h l B G R⟩ ∧ i ≤ j ∧ j ≤ G.length ∧ n = j - i ∧ (∀ k, k < i → (gat G k).1 < a) ∧ (∀ k, j ≤ k → k < G.length → a ≤ (gat G k).1)) (fun n s hs => ?_) fuel G.length _ ⟨0, G.length, _, rfl, by omega, by omega, by omega, fun k hk => by omega, fun k h1 h2 => by omega⟩ (by omega))
  obtain ⟨i, j, c, rfl, hij, hj, rfl, h1, h2⟩ := hs
  have et : EvT (bnd (bnd2 (rd 2) (rd 3) ltD) isBl) ⟨[.v (.loc 1), .v (.p (.int a)), .v (.p (.int i)), .v (.p (.int j)), c], HS m pol u h l B G R⟩ (decide ((i : Int) < j)) := et_b (eb_lt (ed_rd rfl) (ed_rd rfl))
  by_cases hlt : i < j
  · rw [decide_eq_true (by omega)] at et
    refine .inr ⟨_, et, ?_⟩
    have hk : (i + j) / 2 < G.length := by omega
    refine wp_seq (wp_set (d := .p (.int ((i + j) / 2 : Nat))) (by
      rw [← mid_nat]
      exact ed_fdiv (i := (i : Int) + j) (j := 2) (ed_add (i := i) (j := j) (ed_rd rfl) (ed_rd rfl)) ed_cst (by decide)) ?_)
    dsimp only
    generalize hm : (i + j) / 2 = k at *
    refine wp_if (et_b (eb_lt (ef_gap0 (i := k) (ed_rd rfl) (ed_rd rfl) hk) (ed_rd (d := .p (.int a)) rfl))) (fun b => ?_) fun b => ?_
    · refine wp_set (d := .p (.int ((k + 1 : Nat) : Int))) (ed_add (i := k) (j := 1) (ed_rd rfl) ed_cst) ⟨j - (k + 1), by omega, k + 1, j, _, rfl, by omega, hj, rfl, fun x hx => ?_, h2⟩
      have b := of_decide_eq_true b
      by_cases e : x = k
      · subst e; rw [gat_at hk]; exact b
      · have := ok_at ho (i := x) (j := k) (by omega) hk
        rw [gat_at (by omega)]; omega
    · refine wp_set (d := .p (.int k)) (ed_rd rfl) ⟨k - i, by omega, i, k, _, rfl, by omega, by omega, rfl, h1, fun x hx hx2 => ?_⟩
      have b := of_decide_eq_false b
      by_cases e : x = k
      · subst e; rw [gat_at hk]; omega
      · have := ok_at ho (i := k) (j := x) (by omega) hx2
        rw [gat_at hx2]; omega
  · rw [decide_eq_false (by omega)] at et
    refine .inl ⟨_, et, ?_⟩
    have e : i = j := by omega
    subst e
    dsimp only
    refine wp_ret (d := .p (.int i)) (ed_rd rfl) ⟨i, rfl, hj, fun q hq => ?_, fun q hq => ?_, rfl⟩
    · obtain ⟨k, k1, k2, rfl⟩ := gat_mem_take hq
      exact h1 k k1
    · obtain ⟨k, k1, k2, rfl⟩ := gat_mem_drop hq
      exact h2 k k1 k2
theorem uni_ix {i : Nat} (hi : i + 1 < G.length) : uni G i = if G[i].1 + G[i].2 = G[i + 1].1 then G.take i ++ [(G[i].1, G[i].2 + G[i + 1].2)] ++ G.drop (i + 2) else G := by
  unfold uni
  rw [List.drop_eq_getElem_cons (by omega), List.drop_eq_getElem_cons hi]
  dsimp only
  split <;> simp
theorem uni_end {i : Nat} (hi : i + 1 = G.length) : uni G i = G := by
  unfold uni
  rw [List.drop_eq_getElem_cons (by omega), List.drop_eq_nil_of_le (by omega)]
theorem slice_gap {i : Nat} {q : Pr} (hi : i + 1 < G.length) (hG : G.length ≤ 1000) : sliceAt (.loc 3) (.p (.int i)) (.p (.int ((i : Int) + 2))) (.p (.lst [pairP q])) ⟨sl, HS m pol u h l B G R⟩ = some ⟨sl, HS m pol u h l B (G.take i ++ [q] ++ G.drop (i + 2)) R⟩ := by
  have hsz : sizeLine = 16777216 := rfl
  show (if 0 ≤ (i : Int) ∧ (i : Int) ≤ (i : Int) + 2 ∧ (i : Int) + 2 ≤ (G.map pD).length ∧ (G.map pD).length + 1 ≤ sizeLine then some (⟨sl, some (m :: hI pol u h l :: gvO B :: .lst ((G.map pD).take (i : Int).toNat ++ [pD q] ++ (G.map pD).drop ((i : Int) + 2).toNat) :: R)⟩ : Sta) else none) = _
  rw [if_pos (by rw [List.length_map]; omega), Int.toNat_natCast, show ((i : Int) + 2).toNat = i + 2 by omega, ← List.map_take, ← List.map_drop]
  show some (⟨sl, some (m :: hI pol u h l :: gvO B :: .lst ((G.take i).map pD ++ [q].map pD ++ (G.drop (i + 2)).map pD) :: R)⟩ : Sta) = _
  rw [← List.map_append, ← List.map_append]
  rfl
theorem unite_ok {i : Nat} (hi : i < G.length) (hG : G.length ≤ 1000) : ∃ d s, m_Heap_unite [.loc 1, .p (.int i)] (HS m pol u h l B G R) = .ok d s ∧ s.st = HS m pol u h l B (uni G i) R := by
  refine run_wp (R := fun d s => s.st = HS m pol u h l B (uni G i) R) rfl ?_
  show Wp (g_Heap_unite ⟨[.v (.loc 1), .v (.p (.int i)), .un, .un, .un, .un], HS m pol u h l B G R⟩) _
  unfold g_Heap_unite
  refine wp_seq (wp_if (et_b (eb_eqI (ed_add (i := i) (j := 1) (ed_rd rfl) ed_cst) (ef_ngaps (ed_rd rfl)))) (fun b => ?_) fun b => wp_skip ?_)
  · have b := of_decide_eq_true b
    show HS m pol u h l B G R = _
    rw [uni_end (by omega)]
  have b := of_decide_eq_false b
  have hi2 : i + 1 < G.length := by omega
  dsimp only
  refine wp_seq (wp_asg (s2 := ⟨[.v (.loc 1), .v (.p (.int i)), .v (.p (.int G[i].1)), .v (.p (.int G[i].2)), .un, .un], HS m pol u h l B G R⟩) (ef_gap (i := i) (ed_rd rfl) (ed_rd rfl) hi) rfl ?_)
  dsimp only
  refine wp_seq (wp_asg (s2 := ⟨[.v (.loc 1), .v (.p (.int i)), .v (.p (.int G[i].1)), .v (.p (.int G[i].2)), .v (.p (.int G[i + 1].1)), .v (.p (.int G[i + 1].2))], HS m pol u h l B G R⟩) (ef_gap (i := i + 1) (ed_rd rfl) (ed_add (i := i) (j := 1) (ed_rd rfl) ed_cst) hi2) rfl ?_)
  dsimp only
  refine wp_if (et_b (eb_eqI (ed_add (i := G[i].1) (j := G[i].2) (ed_rd rfl) (ed_rd rfl)) (ed_rd (d := .p (.int G[i + 1].1)) rfl))) (fun c => ?_) fun c => ?_
  · have hv : EvD (frz (bnd (consA (bnd (consA (rd 2) (consA (bnd2 (rd 3) (rd 5) addD) nilA)) mkTup) nilA) mkLin)) ⟨[.v (.loc 1), .v (.p (.int i)), .v (.p (.int G[i].1)), .v (.p (.int G[i].2)), .v (.p (.int G[i + 1].1)), .v (.p (.int G[i + 1].2))], HS m pol u h l B G R⟩ (.p (.lst [pairP (G[i].1, G[i].2 + G[i + 1].2)])) := rfl
    refine wp_asg (s2 := ⟨[.v (.loc 1), .v (.p (.int i)), .v (.p (.int G[i].1)), .v (.p (.int G[i].2)), .v (.p (.int G[i + 1].1)), .v (.p (.int G[i + 1].2))], HS m pol u h l B (G.take i ++ [(G[i].1, G[i].2 + G[i + 1].2)] ++ G.drop (i + 2)) R⟩) hv ?_ ?_
    · unfold sliceG
      rw [show fldE CT "gaps" (rd 0) _ = _ from ef_gaps (ed_rd rfl)]
      dsimp only
      rw [show rd 1 _ = _ from ed_rd (d := .p (.int i)) rfl]
      dsimp only
      rw [show bnd2 (rd 1) (cst (.p (.int 2))) addD _ = _ from ed_add (i := i) (j := 2) (ed_rd rfl) ed_cst]
      exact slice_gap hi2 hG
    · show HS m pol u h l B _ R = _
      rw [uni_ix hi2, if_pos (of_decide_eq_true c)]
  · refine wp_skip ?_
    show HS m pol u h l B G R = _
    rw [uni_ix hi2, if_neg (of_decide_eq_false c)]
theorem last_ix {q : Pr} {L : List Pr} : ixO (.loc 3) (.p (.int (-1))) ⟨sl, HS m pol u h l B (L ++ [q]) R⟩ = some (pD q) := by
  show atI ((L ++ [q]).map pD) (-1) = _
  unfold atI ixN
  rw [if_neg (by omega), if_pos (by simp; omega), List.length_map, List.length_append, List.length_singleton]
  show ((L ++ [q]).map pD)[((-1 : Int) + ((L.length + 1 : Nat) : Int)).toNat]? = _
  rw [show ((-1 : Int) + ((L.length + 1 : Nat) : Int)).toNat = L.length by omega, List.getElem?_map, List.getElem?_concat_length]
  rfl
theorem del_last {q : Pr} {L : List Pr} (hG : L.length ≤ 1000) : delAt (.loc 3) (.p (.int (-1))) ⟨sl, HS m pol u h l B (L ++ [q]) R⟩ = some ⟨sl, HS m pol u h l B L R⟩ := by
  have hsz : sizeLine = 16777216 := rfl
  show (if ((L ++ [q]).map pD).length ≤ sizeLine then (ixN ((L ++ [q]).map pD).length (-1)).map _ else none) = _
  have e : ixN ((L ++ [q]).map pD).length (-1) = some L.length := by
    unfold ixN
    rw [if_neg (by omega), if_pos (by simp; omega), List.length_map, List.length_append, List.length_singleton]
    congr 1
    omega
  rw [if_pos (by rw [List.length_map, List.length_append, List.length_singleton]; omega), e]
  show some (⟨sl, some (m :: hI pol u h l :: gvO B :: .lst (((L ++ [q]).map pD).eraseIdx L.length) :: R)⟩ : Sta) = _
  rw [← DT.map_erase, List.eraseIdx_append_of_length_le (Nat.le_refl _)]
  simp
  rfl
theorem lower_ok {q : Pr} {L : List Pr} (hG : L.length ≤ 1000) : ∃ d s, m_Heap_lower_top [.loc 1] (HS m pol u h l B (L ++ [q]) R) = .ok d s ∧ s.st = if q.1 + q.2 = h then HS m pol u q.1 l B L R else HS m pol u h l B (L ++ [q]) R := by
  refine run_wp (R := fun d s => s.st = if q.1 + q.2 = h then HS m pol u q.1 l B L R else HS m pol u h l B (L ++ [q]) R) rfl ?_
  show Wp (g_Heap_lower_top ⟨[.v (.loc 1), .un, .un], HS m pol u h l B (L ++ [q]) R⟩) _
  unfold g_Heap_lower_top
  refine wp_seq (wp_asg (s2 := ⟨[.v (.loc 1), .v (.p (.int q.1)), .v (.p (.int q.2))], HS m pol u h l B (L ++ [q]) R⟩) (ed_ix (ef_gaps (ed_rd rfl)) (ed_neg (i := 1) ed_cst) last_ix) rfl ?_)
  dsimp only
  refine wp_if (et_b (eb_eqI (ed_add (i := q.1) (j := q.2) (ed_rd rfl) (ed_rd rfl)) (ef_height (ed_rd rfl)))) (fun b => ?_) fun b => wp_skip ?_
  · refine wp_seq (wp_fldS (s2 := ⟨[.v (.loc 1), .v (.p (.int q.1)), .v (.p (.int q.2))], HS m pol u q.1 l B (L ++ [q]) R⟩) (ed_rd (n := 1) (d := .p (.int q.1)) rfl) (ed_rd (d := .loc 1) rfl) rfl ?_)
    dsimp only
    refine wp_delS (ef_gaps (ed_rd rfl)) (ed_neg (i := 1) ed_cst) (del_last hG) ?_
    show HS m pol u q.1 l B L R = _
    rw [if_pos (of_decide_eq_true b)]
  · show HS m pol u h l B (L ++ [q]) R = _
    rw [if_neg (of_decide_eq_false b)]
/-! ### give -/
theorem eb_in {neg : Bool} {a : Int} {kvs : List (L2.Key × D)} {fo : Ev} (hf : EvI f s a) (hd : EvD fo s d) (hs : seqOf d s = none) (hk : dicOf d s = some kvs) : EvB (inE neg f (asPk fo)) s (if neg then !(getK kvs (Sum.inl a)).isSome else (getK kvs (Sum.inl a)).isSome) := by
  unfold EvB inE
  rw [bnd_ok hf, bnd_ok (ep_as hd)]
  unfold inPD
  have e : inPk (.p (.int a)) (.d d) s = some (getK kvs (Sum.inl a)).isSome := by
    show inB (.p (.int a)) d s = _
    unfold inB
    simp only [hs, hk]
    rfl
  rw [e]
theorem ef_in {neg : Bool} {a : Int} (h0 : EvD go ⟨sl, HS m pol u h l B G R⟩ (.loc 1)) (hf : EvI f ⟨sl, HS m pol u h l B G R⟩ a) : EvB (inE neg f (asPk (fldE CT "given" go))) ⟨sl, HS m pol u h l B G R⟩ (if neg then !(B.any fun q => decide (q.1 = a)) else (B.any fun q => decide (q.1 = a))) := by
  have := eb_in (neg := neg) (kvs := B.map kvD) hf (ef_given h0) rfl rfl
  rw [mem_B] at this
  exact this
theorem ix_given {top : Int} {x : Pr} (hb : Blk B top) (hx : x ∈ B) : ixO (.loc 2) (.p (.int x.1)) ⟨sl, HS m pol u h l B G R⟩ = some (.p (.int x.2)) := by
  show getK (B.map kvD) (Sum.inl x.1) = _
  rw [getK_B, find_B hb hx]
  rfl
theorem del_given {top : Int} {x : Pr} (hb : Blk B top) (hx : x ∈ B) : delAt (.loc 2) (.p (.int x.1)) ⟨sl, HS m pol u h l B G R⟩ = some ⟨sl, HS m pol u h l (wout B x.1) G R⟩ := by
  show (if (getK (B.map kvD) (Sum.inl x.1)).isSome = true then some (⟨sl, some (m :: hI pol u h l :: .dic ((B.map kvD).filter fun kv => decide (kv.1 ≠ (Sum.inl x.1 : L2.Key))) :: gpO G :: R)⟩ : Sta) else none) = _
  rw [if_pos (by rw [getK_B, find_B hb hx]; rfl), del_B]
  rfl
theorem ins_gap {i : Nat} {q : Pr} (hG : G.length ≤ 1000) (hi : i ≤ G.length) : insAt (.loc 3) (.p (.int i)) (pD q) ⟨sl, HS m pol u h l B G R⟩ = some ⟨sl, HS m pol u h l B (G.take i ++ [q] ++ G.drop i) R⟩ := by
  have hsz : sizeLine = 16777216 := rfl
  show (if (G.map pD).length < sizeLine ∧ 0 ≤ (i : Int) ∧ (i : Int) < 2 ^ 63 then some (⟨sl, some (m :: hI pol u h l :: gvO B :: .lst ((G.map pD).take (i : Int).toNat ++ [pD q] ++ (G.map pD).drop (i : Int).toNat) :: R)⟩ : Sta) else none) = _
  rw [if_pos (by rw [List.length_map]; omega), Int.toNat_natCast, ← List.map_take, ← List.map_drop]
  show some (⟨sl, some (m :: hI pol u h l :: gvO B :: .lst ((G.take i).map pD ++ [q].map pD ++ (G.drop i).map pD) :: R)⟩ : Sta) = _
  rw [← List.map_append, ← List.map_append]
  rfl
theorem wp_insS {gv : Ev} {ds : List D} (h1 : EvD go s d) (hl : isLst (.d d) s = true) (hs : seqPk (.d d) s = some ds) (h2 : EvD gi s k) (h3 : EvD gv s v) (h4 : insAt d k v s = some s2) (h : Q.nx s2) : Wp (insS go gi gv s) Q := by
  unfold insS
  rw [bndS_ok (show go s = .ok d s from h1), if_pos ⟨hl, by rw [hs]; rfl⟩, bndS_ok (show gi s = .ok k s from h2), bndS_ok (show gv s = .ok v s from h3), h4]
  exact h
/-- the pieces and the height behind a give -/
def lowered (pol : Str) (h : Int) (G : List Pr) : Int × List Pr := if pol = "bump" then (h, G) else match G.getLast? with
  | some q => if q.1 + q.2 = h then (q.1, G.dropLast) else (h, G)
  | none => (h, G)
theorem uni_len (i : Nat) : (uni G i).length ≤ G.length := by
  unfold uni
  split
  · rename_i q r R e
    split
    · have := congrArg List.length e
      rw [List.length_drop, List.length_cons, List.length_cons] at this
      rw [List.length_append, List.length_take, List.length_cons]; omega
    · exact Nat.le_refl _
  · exact Nat.le_refl _
theorem give_no {a : Int} (hn : (B.any fun q => decide (q.1 = a)) = false) : ∃ d s, m_Heap_give [.loc 1, .p (.int a)] (HS m pol u h l B G R) = .ok d s ∧ d = .p (.bl false) ∧ s.st = HS m pol u h l B G R := by
  refine run_wp (R := fun d s => d = .p (.bl false) ∧ s.st = HS m pol u h l B G R) rfl ?_
  show Wp (g_Heap_give ⟨[.v (.loc 1), .v (.p (.int a)), .un, .un], HS m pol u h l B G R⟩) _
  unfold g_Heap_give
  refine wp_seq (wp_if (et_b (ef_in (neg := true) (a := a) (ed_rd rfl) (ed_rd rfl))) (fun b => ?_) fun b => ?_)
  · exact wp_ret (d := .p (.bl false)) ed_cst ⟨rfl, rfl⟩
  · rw [hn] at b; cases b
theorem eb_npol {x : Str} (h0 : EvD go ⟨sl, HS m pol u h l B G R⟩ (.loc 1)) : EvB (bnd2 (fldE CT "policy" go) (cst (.p (.str x))) neD) ⟨sl, HS m pol u h l B G R⟩ (!decide (pol = x)) := by
  rw [← eqP_str]; exact eb_ne (ef_pol h0) ed_cst (by show min 0 0 ≤ 60; decide)
theorem give_ok {top : Int} {x : Pr} (ho : Ok 0 G) (hb : Blk B top) (hx : x ∈ B) (hG : G.length ≤ 900) (hin : ∀ w, In B w → ¬ In G w) :
    ∃ d s, m_Heap_give [.loc 1, .p (.int x.1)] (HS m pol u h l B G R) = .ok d s ∧ d = .p (.bl true) ∧ ∃ G1, Ok 0 G1 ∧ (∀ w, In G1 w ↔ In G w ∨ (x.1 ≤ w ∧ w < x.1 + x.2)) ∧ G1 ≠ [] ∧ G1.length ≤ G.length + 1 ∧ s.st = HS m pol u (lowered pol h G1).1 l (wout B x.1) (lowered pol h G1).2 R := by
  have hx1 := hb.each x hx
  refine run_wp (R := fun d s => d = .p (.bl true) ∧ ∃ G1, Ok 0 G1 ∧ (∀ w, In G1 w ↔ In G w ∨ (x.1 ≤ w ∧ w < x.1 + x.2)) ∧ G1 ≠ [] ∧ G1.length ≤ G.length + 1 ∧ s.st = HS m pol u (lowered pol h G1).1 l (wout B x.1) (lowered pol h G1).2 R) rfl ?_
  show Wp (g_Heap_give ⟨[.v (.loc 1), .v (.p (.int x.1)), .un, .un], HS m pol u h l B G R⟩) _
  unfold g_Heap_give
  refine wp_seq (wp_if (et_b (ef_in (neg := true) (a := x.1) (ed_rd rfl) (ed_rd rfl))) (fun b => ?_) fun b => wp_skip ?_)
  · rw [List.any_eq_true.mpr ⟨x, hx, by simp⟩] at b; cases b
  dsimp only
  refine wp_seq (wp_set (d := .p (.int x.2)) (ed_ix (ef_given (ed_rd rfl)) (ed_rd (d := .p (.int x.1)) rfl) (ix_given hb hx)) ?_)
  dsimp only
  refine wp_seq (wp_delS (ef_given (ed_rd rfl)) (ed_rd (d := .p (.int x.1)) rfl) (del_given hb hx) ?_)
  dsimp only
  obtain ⟨_, s1, e1, i, rfl, hi, hL, hR, est1⟩ := gap_behind_ok (m := m) (pol := pol) (u := u) (h := h) (l := l) (B := wout B x.1) (R := R) (a := x.1) ho (by omega)
  refine wp_seq (wp_setB (d := .p (.int i)) (s1 := ⟨[.v (.loc 1), .v (.p (.int x.1)), .v (.p (.int x.2)), .un], s1.st⟩) (meth_ok (ed_rd rfl) rfl (ea_cons (ed_rd (d := .p (.int x.1)) rfl) ea_nil) e1) ?_)
  rw [est1]
  dsimp only
  obtain ⟨p1, p2, p3⟩ := putBack_ok (G := G) (i := i) (x := x) ho (by omega) hx1.2.1 hi hL hR fun w w1 w2 => hin w ⟨x, hx, w1, w2⟩
  refine wp_seq (wp_insS (ds := G.map pD) (ef_gaps (ed_rd rfl)) rfl rfl (ed_rd (d := .p (.int i)) rfl) (ed_pair (i := x.1) (j := x.2) (ed_rd rfl) (ed_rd rfl)) (ins_gap (by omega) hi) ?_)
  dsimp only
  have len1 : (G.take i ++ [x] ++ G.drop i).length = G.length + 1 := by
    rw [List.length_append, List.length_append, List.length_take, List.length_drop, List.length_singleton]; omega
  have hpb : putBack G i x = if 0 < i then uni (uni (G.take i ++ [x] ++ G.drop i) i) (i - 1) else uni (G.take i ++ [x] ++ G.drop i) i := rfl
  have ne2 : 0 < i → i - 1 < (uni (G.take i ++ [x] ++ G.drop i) i).length := fun hp => by
    have : G.take i ++ [x] ++ G.drop i = G.take i ++ x :: G.drop i := by simp
    rw [this]
    have hl : (G.take i).length = i := by rw [List.length_take]; omega
    have e := uni_at (G.take i) x (G.drop i)
    rw [hl] at e
    rw [e, List.length_append, hl]
    omega
  generalize (G.take i ++ [x] ++ G.drop i) = G0 at *
  obtain ⟨d2, s2, e2, est2⟩ := unite_ok (m := m) (pol := pol) (u := u) (h := h) (l := l) (B := wout B x.1) (R := R) (G := G0) (i := i) (by omega) (by omega)
  refine wp_seq (wp_drop (s1 := ⟨[.v (.loc 1), .v (.p (.int x.1)), .v (.p (.int x.2)), .v (.p (.int i))], s2.st⟩) (meth_ok (ed_rd rfl) rfl (ea_cons (ed_rd (d := .p (.int i)) rfl) ea_nil) e2) ?_)
  rw [est2]
  dsimp only
  have hl2 := uni_len (G := G0) i
  have fin : ∀ G1, G1 = putBack G i x → G1.length ≤ G.length + 1 → Wp (seqS (ifS (bnd (bnd2 (fldE CT "policy" (rd 0)) (cst (.p (.str "bump"))) neD) isBl) (bndS (methE "Heap" "lower_top" m_Heap_lower_top (rd 0) nilA) fun _ => skip) skip) (bndS (cst (.p (.bl true))) retS) ⟨[.v (.loc 1), .v (.p (.int x.1)), .v (.p (.int x.2)), .v (.p (.int i))], HS m pol u h l (wout B x.1) G1 R⟩)
      (RetO fun d s => d = .p (.bl true) ∧ ∃ G1, Ok 0 G1 ∧ (∀ w, In G1 w ↔ In G w ∨ (x.1 ≤ w ∧ w < x.1 + x.2)) ∧ G1 ≠ [] ∧ G1.length ≤ G.length + 1 ∧ s.st = HS m pol u (lowered pol h G1).1 l (wout B x.1) (lowered pol h G1).2 R) := fun G1 e hl1 => by
    rw [← e] at p1 p2 p3
    refine wp_seq (wp_if (et_b (eb_npol (ed_rd rfl))) (fun b => ?_) fun b => wp_skip ?_)
    · have b : pol ≠ "bump" := by simpa using b
      rcases List.eq_nil_or_concat G1 with z | ⟨L, q, z⟩
      · exact (p3 z).elim
      · rw [List.concat_eq_append] at z
        subst z
        obtain ⟨d3, s3, e3, est3⟩ := lower_ok (m := m) (pol := pol) (u := u) (h := h) (l := l) (B := wout B x.1) (R := R) (q := q) (L := L) (by rw [List.length_append, List.length_singleton] at hl1; omega)
        refine wp_drop (s1 := ⟨[.v (.loc 1), .v (.p (.int x.1)), .v (.p (.int x.2)), .v (.p (.int i))], s3.st⟩) (meth_ok (ed_rd rfl) rfl ea_nil e3) ?_
        rw [est3]
        dsimp only
        refine wp_ret (d := .p (.bl true)) ed_cst ⟨rfl, L ++ [q], p1, p2, p3, hl1, ?_⟩
        unfold lowered
        rw [if_neg b, List.getLast?_concat, List.dropLast_concat]
        dsimp only
        split <;> rfl
    · have b : pol = "bump" := by simpa using b
      dsimp only
      refine wp_ret (d := .p (.bl true)) ed_cst ⟨rfl, G1, p1, p2, p3, hl1, ?_⟩
      unfold lowered
      rw [if_pos b]
  refine wp_seq (wp_if (et_b (eb_gt (i := i) (j := 0) (ed_rd rfl) ed_cst)) (fun b => ?_) fun b => wp_skip ?_)
  · have b := of_decide_eq_true b
    have hp : 0 < i := by omega
    obtain ⟨d3, s3, e3, est3⟩ := unite_ok (m := m) (pol := pol) (u := u) (h := h) (l := l) (B := wout B x.1) (R := R) (G := uni G0 i) (i := i - 1) (ne2 hp) (by omega)
    have ei : EvI (bnd2 (rd 3) (cst (.p (.int 1))) subD) ⟨[.v (.loc 1), .v (.p (.int x.1)), .v (.p (.int x.2)), .v (.p (.int i))], HS m pol u h l (wout B x.1) (uni G0 i) R⟩ ((i - 1 : Nat) : Int) := by
      have := ed_sub (f := rd 3) (g := cst (.p (.int 1))) (s := ⟨[.v (.loc 1), .v (.p (.int x.1)), .v (.p (.int x.2)), .v (.p (.int i))], HS m pol u h l (wout B x.1) (uni G0 i) R⟩) (i := i) (j := 1) (ed_rd rfl) ed_cst
      rw [show (i : Int) - 1 = ((i - 1 : Nat) : Int) by omega] at this
      exact this
    refine wp_drop (s1 := ⟨[.v (.loc 1), .v (.p (.int x.1)), .v (.p (.int x.2)), .v (.p (.int i))], s3.st⟩) (meth_ok (ed_rd rfl) rfl (ea_cons ei ea_nil) e3) ?_
    rw [est3]
    dsimp only
    have hl3 := uni_len (G := uni G0 i) (i - 1)
    exact fin _ (by rw [hpb, if_pos hp]) (by omega)
  · have b := of_decide_eq_false b
    have hp : ¬ 0 < i := by omega
    dsimp only
    exact fin _ (by rw [hpb, if_neg hp]) (by omega)
end
end K85
namespace K85
open PySem PySem.Spec PyProof.Rows L2 Dz
section
variable {m : MO} {pol : Str} {u h l : Int} {B G : List Pr} {R : List MO} {sl : List Sl} {go gi gl gh f g : Ev} {d k v : D} {s s1 s2 : Sta} {Q : Po}
theorem mapM_kvI : ∀ B : List Pr, (B.map kvD).mapM kvI = some B
  | [] => rfl
  | q :: B => by
    rw [List.map_cons, List.mapM_cons, mapM_kvI B]
    rfl
theorem pD_map (G : List Pr) : G.map pD = (G.map pairP).map D.p := by rw [List.map_map]; rfl
theorem blocks_ok : ∃ s, m_Heap_blocks [.loc 1] (HS m pol u h l B G R) = .ok (.p (.tup ((sortII B).map pairP))) s ∧ s.st = HS m pol u h l B G R := by
  refine ⟨_, runD_ret rfl (s' := ⟨[.v (.loc 1)], HS m pol u h l B G R⟩) ?_, rfl⟩
  show g_Heap_blocks ⟨[.v (.loc 1)], HS m pol u h l B G R⟩ = _
  unfold g_Heap_blocks
  refine es_ret (ed_fn (ep_as (ed_frz (m := .lst ((sortII B).map pairP)) ?_)) ?_)
  · unfold sortItF
    rw [bnd_ok (ef_given (ed_rd rfl))]
    show (match (B.map kvD).mapM kvI with | some qs => Res.ok (Lin.lst ((sortII qs).map pairP)) _ | none => .bad) = _
    rw [mapM_kvI]
  · rfl
theorem pieces_ok : ∃ s, m_Heap_pieces [.loc 1] (HS m pol u h l B G R) = .ok (.p (.tup (G.map pairP))) s ∧ s.st = HS m pol u h l B G R := by
  refine ⟨_, runD_ret rfl (s' := ⟨[.v (.loc 1)], HS m pol u h l B G R⟩) ?_, rfl⟩
  show g_Heap_pieces ⟨[.v (.loc 1)], HS m pol u h l B G R⟩ = _
  unfold g_Heap_pieces
  refine es_ret (ed_fn (ep_as (ef_gaps (ed_rd rfl))) ?_)
  show tupP (.d (.loc 3)) ⟨[.v (.loc 1)], HS m pol u h l B G R⟩ = _
  show ((G.map pD).mapM unP).map P.tup = _
  rw [pD_map, mapM_unP]
  rfl
theorem top_ok : ∃ s, m_Heap_top [.loc 1] (HS m pol u h l B G R) = .ok (.p (.int h)) s ∧ s.st = HS m pol u h l B G R :=
  ⟨_, runD_ret rfl (s' := ⟨[.v (.loc 1)], HS m pol u h l B G R⟩) (es_ret (ef_height (ed_rd rfl))), rfl⟩
theorem sized_ok {top : Int} {x : Pr} (hb : Blk B top) (hx : x ∈ B) : ∃ s, m_Heap_size [.loc 1, .p (.int x.1)] (HS m pol u h l B G R) = .ok (.p (.int x.2)) s ∧ s.st = HS m pol u h l B G R := by
  refine ⟨_, runD_ret rfl (s' := ⟨[.v (.loc 1), .v (.p (.int x.1))], HS m pol u h l B G R⟩) ?_, rfl⟩
  show g_Heap_size ⟨[.v (.loc 1), .v (.p (.int x.1))], HS m pol u h l B G R⟩ = _
  unfold g_Heap_size
  refine es_ret ?_
  unfold EvD getE
  rw [bnd_ok (ef_given (ed_rd rfl)), if_pos (show (dicOf (D.loc 2) ⟨[.v (.loc 1), .v (.p (.int x.1))], HS m pol u h l B G R⟩).isSome = true from rfl), bnd_ok (ed_rd (d := .p (.int x.1)) rfl), bnd_ok (show cst _ _ = _ from rfl)]
  have e : getO (.loc 2) (.p (.int x.1)) ⟨[.v (.loc 1), .v (.p (.int x.1))], HS m pol u h l B G R⟩ = some (getK (B.map kvD) (Sum.inl x.1)) := rfl
  rw [e, getK_B, find_B hb hx]
  rfl
end
end K85
/-! the model by words -/
namespace K85
open PySem PySem.Spec PyProof.Rows L2 Dz
def mI (t l : Int) : MO := .dic [(.inr "owner", .loc 7), (.inr "sizes", .loc 8), (.inr "top", .p (.int t)), (.inr "last", .p (.int l))]
structure Pre7 where
  a0 : MO
  a1 : MO
  a2 : MO
  a3 : MO
  a4 : MO
  a5 : MO
  a6 : MO
def MS (p : Pre7) (own : List (L2.Key × D)) (B : List Pr) (t l : Int) : Option (List MO) := some [p.a0, p.a1, p.a2, p.a3, p.a4, p.a5, p.a6, .dic own, gvO B, mI t l]
def owns (own : List (L2.Key × D)) (w : Int) : Bool := (getK own (Sum.inl w)).isSome
section
variable {p : Pre7} {own : List (L2.Key × D)} {B G F : List Pr} {t l : Int} {sl : List Sl} {f g go gi fk fv : Ev} {d k v : D} {s s1 s2 : Sta} {Q : Po}
theorem wp_putV {i : Nat} (hv : EvD fv s v) (hp : s.sl[i]? = some (.v d)) (hk : EvD fk s k) (h : putAt (.d d) i k v s = some s2) (hq : Q.nx s2) : Wp (putV i fk fv s) Q := by
  unfold putV
  rw [bndS_ok (show fv s = .ok v s from hv), bndS_ok (ep_pk hp), bndS_ok (show fk s = .ok k s from hk), bndS_ok (ep_pk hp), h]
  exact hq
theorem deep_nil {x : P} : min (deep x) (deep (.lst [])) ≤ 60 := by show min _ 1 ≤ 60; omega
theorem eqP_nil (xs : List P) : eqP (.lst xs) (.lst []) = xs.isEmpty := by cases xs <;> rfl
theorem et_neNil {i : Nat} {xs : List P} (h : s.sl[i]? = some (.lin (.lst xs))) : EvT (neV i (frz (bnd nilA mkLin))) s (!xs.isEmpty) := by
  unfold EvT neV
  rw [ep_lin h]
  dsimp only
  rw [bnd_ok (show frz (bnd nilA mkLin) s = .ok (.p (.lst [])) s from rfl), bnd_ok (ep_lin h)]
  show (if min (deep (.lst xs)) (deep (.lst [])) ≤ 60 then Res.ok (!eqP (.lst xs) (.lst [])) s else .bad) = _
  rw [if_pos deep_nil, eqP_nil]
theorem ei_rng2 {fa : Sta → Res (List D)} {i j : Int} (h : fa s = .ok [.p (.int i), .p (.int j)] s) (h1 : 0 ≤ i ∧ i < 2 ^ 62) (h2 : 0 ≤ j ∧ j < 2 ^ 62) : bnd fa rng2 s = .ok (rngL i (j - i).toNat) s := by
  rw [bnd_ok h]
  unfold rng2
  simp only
  rw [if_pos ⟨by omega, h1.2, by omega, h2.2⟩]
theorem ef_own {neg : Bool} {a : Int} (h0 : sl[0]? = some (.v (.loc 9))) (hf : EvI f ⟨sl, MS p own B t l⟩ a) : EvB (inE neg f (asPk (ixV 0 (cst (.p (.str "owner")))))) ⟨sl, MS p own B t l⟩ (if neg then !(owns own a) else owns own a) :=
  eb_in (neg := neg) (d := .loc 7) (kvs := own) hf (ed_ixV h0 ed_cst rfl) rfl rfl
theorem ef_top (h0 : sl[0]? = some (.v (.loc 9))) : EvI (ixV 0 (cst (.p (.str "top")))) ⟨sl, MS p own B t l⟩ t := ed_ixV h0 ed_cst rfl
theorem ef_mlast (h0 : sl[0]? = some (.v (.loc 9))) : EvI (ixV 0 (cst (.p (.str "last")))) ⟨sl, MS p own B t l⟩ l := ed_ixV h0 ed_cst rfl
/-- the runs of words that no block has -/
def Runs (own : List (L2.Key × D)) (t : Int) (F : List Pr) : Prop := Ok 0 F ∧ ∀ w, In F w ↔ 1 ≤ w ∧ w < t ∧ owns own w = false
theorem ixL_last {L : List Pr} {q : Pr} {c : Sl} {i : Nat} (h : s.sl[i]? = some (.lin (.lst ((L ++ [q]).map pairP)))) : EvD (ixV i (bnd (cst (.p (.int 1))) negD)) s (.p (pairP q)) := by
  unfold EvD ixV
  rw [bnd_ok (ep_lin h), bnd_ok (show bnd (cst (.p (.int 1))) negD s = .ok (.p (.int (-1))) s from rfl), bnd_ok (ep_lin h)]
  have e : ixPk (.lin (.lst ((L ++ [q]).map pairP))) (.p (.int (-1))) s = some (.p (pairP q)) := by
    show (atI ((L ++ [q]).map pairP) (-1)).map D.p = _
    unfold atI ixN
    rw [if_neg (by omega), if_pos (by simp; omega), List.length_map, List.length_append, List.length_singleton]
    show (((L ++ [q]).map pairP)[((-1 : Int) + ((L.length + 1 : Nat) : Int)).toNat]?).map D.p = _
    rw [show ((-1 : Int) + ((L.length + 1 : Nat) : Int)).toNat = L.length by omega, List.getElem?_map, List.getElem?_concat_length]
    rfl
  rw [e]
theorem runs_ok (ht : 1 ≤ t) (ht2 : t ≤ 5000) : ∃ d s, m__law_runs [.loc 9] (MS p own B t l) = .ok d s ∧ ∃ F, d = .p (.lst (F.map pairP)) ∧ Runs own t F ∧ F.length ≤ 5000 ∧ s.st = MS p own B t l := by
  have hsz : sizeLine = 16777216 := rfl
  refine run_wp (R := fun d s => ∃ F, d = .p (.lst (F.map pairP)) ∧ Runs own t F ∧ F.length ≤ 5000 ∧ s.st = MS p own B t l) rfl ?_
  show Wp (g__law_runs ⟨[.v (.loc 9), .un, .un], MS p own B t l⟩) _
  unfold g__law_runs
  refine wp_seq (wp_setL (m := .lst []) rfl ?_)
  dsimp only
  refine wp_seq (wp_for (s1 := ⟨[.v (.loc 9), .lin (.lst []), .un], MS p own B t l⟩) (fun n s => ∃ (F : List Pr) (c : Sl), s = ⟨[.v (.loc 9), .lin (.lst (F.map pairP)), c], MS p own B t l⟩ ∧ Ok 0 F ∧ (∀ w, In F w ↔ 1 ≤ w ∧ w ≤ n ∧ owns own w = false) ∧ F.length ≤ n)
    (ei_rng2 (i := 1) (j := t) (ea_cons ed_cst (ea_cons (ef_top rfl) ea_nil)) (by omega) (by omega)) ⟨[], _, rfl, trivial, fun w => ⟨fun z => (in_nil z).elim, fun z => by omega⟩, Nat.le_refl _⟩ (fun n d s hd hs => ?_) fun s hs => ?_)
  · obtain ⟨F, c, rfl, hF, hin, hl⟩ := hs
    obtain ⟨hn, rfl⟩ := rngL_at hd
    refine ⟨⟨[.v (.loc 9), .lin (.lst (F.map pairP)), .v (.p (.int (1 + (n : Nat))))], MS p own B t l⟩, rfl, ?_⟩
    refine wp_if (et_b (ef_own (neg := true) (a := 1 + (n : Nat)) rfl (ed_rd rfl))) (fun b => ?_) fun b => wp_skip ⟨F, _, rfl, hF, fun w => ?_, by omega⟩
    · have b : owns own (1 + (n : Nat)) = false := by simpa using b
      obtain ⟨a1, a2⟩ := addW_ok (w := 1 + (n : Nat)) hF (by omega) fun v hv => by have := (hin v).mp hv; omega
      have fin : Ok 0 (addW F (1 + (n : Nat))) ∧ (∀ w, In (addW F (1 + (n : Nat))) w ↔ 1 ≤ w ∧ w ≤ (n + 1 : Nat) ∧ owns own w = false) := ⟨a1, fun w => by
        rw [a2 w, hin w]
        constructor
        · rintro (z | z)
          · exact ⟨z.1, by omega, z.2.2⟩
          · subst z; exact ⟨by omega, by omega, b⟩
        · rintro ⟨z1, z2, z3⟩
          by_cases e : w = 1 + (n : Nat)
          · exact .inr e
          · exact .inl ⟨z1, by omega, z3⟩⟩
      have hap : EvD (bnd (consA (rd 2) (consA (cst (.p (.int 1))) nilA)) mkTup) ⟨[.v (.loc 9), .lin (.lst (F.map pairP)), .v (.p (.int (1 + (n : Nat))))], MS p own B t l⟩ (.p (pairP (1 + (n : Nat), 1))) := ed_pair (i := 1 + (n : Nat)) (j := 1) (ed_rd rfl) ed_cst
      have hlen : (F.map pairP).length < sizeLine := by rw [List.length_map]; omega
      have app : addW F (1 + (n : Nat)) = F ++ [((1 + (n : Nat) : Int), (1 : Int))] → Wp (appV 1 (bnd (consA (rd 2) (consA (cst (.p (.int 1))) nilA)) mkTup) ⟨[.v (.loc 9), .lin (.lst (F.map pairP)), .v (.p (.int (1 + (n : Nat))))], MS p own B t l⟩) ⟨fun s => ∃ (F : List Pr) (c : Sl), s = ⟨[.v (.loc 9), .lin (.lst (F.map pairP)), c], MS p own B t l⟩ ∧ Ok 0 F ∧ (∀ w, In F w ↔ 1 ≤ w ∧ w ≤ (n + 1 : Nat) ∧ owns own w = false) ∧ F.length ≤ n + 1, fun _ _ => False, fun s => ∃ (F : List Pr) (c : Sl), s = ⟨[.v (.loc 9), .lin (.lst (F.map pairP)), c], MS p own B t l⟩ ∧ Ok 0 F ∧ (∀ w, In F w ↔ 1 ≤ w ∧ w ≤ (n + 1 : Nat) ∧ owns own w = false) ∧ F.length ≤ n + 1, fun _ => False⟩ := fun e => by
        refine wp_app rfl hap hlen ⟨addW F (1 + (n : Nat)), .v (.p (.int (1 + (n : Nat)))), ?_, fin.1, fin.2, by rw [e, List.length_append, List.length_singleton]; omega⟩
        rw [e, List.map_append]
        rfl
      rcases List.eq_nil_or_concat F with rfl | ⟨L, q, e⟩
      · have et : EvT (andT (neV 1 (frz (bnd nilA mkLin))) (bnd (bnd2 (bnd2 (bnd2 (ixV 1 (bnd (cst (.p (.int 1))) negD)) (cst (.p (.int 0))) ixD) (bnd2 (ixV 1 (bnd (cst (.p (.int 1))) negD)) (cst (.p (.int 1))) ixD) addD) (rd 2) eqD) isBl)) ⟨[.v (.loc 9), .lin (.lst (([] : List Pr).map pairP)), .v (.p (.int (1 + (n : Nat))))], MS p own B t l⟩ false := et_and (b := false) (c := false) (et_neNil (i := 1) (xs := []) rfl) (fun z => by cases z)
        refine wp_if et (fun z => by cases z) fun _ => ?_
        exact (app rfl).mono (fun _ h => h) (fun _ _ h => h.elim) (fun _ h => h) fun _ h => h.elim
      · rw [List.concat_eq_append] at e
        subst e
        have et : EvT (andT (neV 1 (frz (bnd nilA mkLin))) (bnd (bnd2 (bnd2 (bnd2 (ixV 1 (bnd (cst (.p (.int 1))) negD)) (cst (.p (.int 0))) ixD) (bnd2 (ixV 1 (bnd (cst (.p (.int 1))) negD)) (cst (.p (.int 1))) ixD) addD) (rd 2) eqD) isBl)) ⟨[.v (.loc 9), .lin (.lst ((L ++ [q]).map pairP)), .v (.p (.int (1 + (n : Nat))))], MS p own B t l⟩ (decide (q.1 + q.2 = 1 + (n : Nat))) := by
          have := et_and (b := true) (c := decide (q.1 + q.2 = 1 + (n : Nat))) (t := neV 1 (frz (bnd nilA mkLin))) (s := ⟨[.v (.loc 9), .lin (.lst ((L ++ [q]).map pairP)), .v (.p (.int (1 + (n : Nat))))], MS p own B t l⟩) (by
            have := et_neNil (i := 1) (s := ⟨[.v (.loc 9), .lin (.lst ((L ++ [q]).map pairP)), .v (.p (.int (1 + (n : Nat))))], MS p own B t l⟩) (xs := (L ++ [q]).map pairP) rfl
            rw [show (!((L ++ [q]).map pairP).isEmpty) = true by simp] at this
            exact this) (fun _ => et_b (eb_eqI (ed_add (i := q.1) (j := q.2) (ed_ix (ixL_last (i := 1) (L := L) (q := q) (c := .un) rfl) ed_cst ix_t0) (ed_ix (ixL_last (i := 1) (L := L) (q := q) (c := .un) rfl) ed_cst ix_t1)) (ed_rd (n := 2) (d := .p (.int (1 + (n : Nat)))) rfl)))
          exact this
        refine wp_if et (fun z => ?_) fun z => ?_
        · have z := of_decide_eq_true z
          have e : addW (L ++ [q]) (1 + (n : Nat)) = L ++ [(q.1, q.2 + 1)] := by
            unfold addW
            rw [List.getLast?_concat, List.dropLast_concat]
            dsimp only
            rw [if_pos z]
          have hv : EvD (bnd (consA (bnd2 (ixV 1 (bnd (cst (.p (.int 1))) negD)) (cst (.p (.int 0))) ixD) (consA (bnd2 (bnd2 (ixV 1 (bnd (cst (.p (.int 1))) negD)) (cst (.p (.int 1))) ixD) (cst (.p (.int 1))) addD) nilA)) mkTup) ⟨[.v (.loc 9), .lin (.lst ((L ++ [q]).map pairP)), .v (.p (.int (1 + (n : Nat))))], MS p own B t l⟩ (.p (pairP (q.1, q.2 + 1))) :=
            ed_pair (i := q.1) (j := q.2 + 1) (ed_ix (ixL_last (i := 1) (L := L) (q := q) (c := .un) rfl) ed_cst ix_t0) (ed_add (i := q.2) (j := 1) (ed_ix (ixL_last (i := 1) (L := L) (q := q) (c := .un) rfl) ed_cst ix_t1) ed_cst)
          unfold lsetV
          rw [bndS_ok hv, bndS_ok (ep_lin (n := 1) rfl), bndS_ok (show bnd (cst (.p (.int 1))) negD _ = .ok (.p (.int (-1))) _ from rfl), bndS_ok (ep_lin (n := 1) rfl)]
          have eix : ixN ((L ++ [q]).map pairP).length (-1) = some L.length := by
            unfold ixN
            rw [if_neg (by omega), if_pos (by simp; omega), List.length_map, List.length_append, List.length_singleton]
            congr 1
            omega
          have es : lsetAt (.lin (.lst ((L ++ [q]).map pairP))) 1 (.p (.int (-1))) (.p (pairP (q.1, q.2 + 1))) ⟨[.v (.loc 9), .lin (.lst ((L ++ [q]).map pairP)), .v (.p (.int (1 + (n : Nat))))], MS p own B t l⟩ = some ⟨[.v (.loc 9), .lin (.lst ((addW (L ++ [q]) (1 + (n : Nat))).map pairP)), .v (.p (.int (1 + (n : Nat))))], MS p own B t l⟩ := by
            show (match D.p (pairP (q.1, q.2 + 1)), ixN ((L ++ [q]).map pairP).length (-1) with | .p x, some j => some (⟨[.v (.loc 9), .lin (.lst (((L ++ [q]).map pairP).set j x)), .v (.p (.int (1 + (n : Nat))))], MS p own B t l⟩ : Sta) | _, _ => none) = _
            rw [eix, e]
            dsimp only
            rw [List.map_append, List.map_append, List.set_append_right _ _ (by rw [List.length_map]; exact Nat.le_refl _), List.length_map, Nat.sub_self]
            rfl
          rw [es]
          exact ⟨addW (L ++ [q]) (1 + (n : Nat)), _, rfl, fin.1, fin.2, by rw [e]; simp only [List.length_append, List.length_singleton] at hl ⊢; omega⟩
        · have z := of_decide_eq_false z
          have e : addW (L ++ [q]) (1 + (n : Nat)) = L ++ [q] ++ [((1 + (n : Nat) : Int), (1 : Int))] := by
            unfold addW
            rw [List.getLast?_concat]
            dsimp only
            rw [if_neg z]
          exact (app e).mono (fun _ h => h) (fun _ _ h => h.elim) (fun _ h => h) fun _ h => h.elim
    · have b : owns own (1 + (n : Nat)) = true := by simpa using b
      rw [hin w]
      constructor
      · rintro ⟨z1, z2, z3⟩; exact ⟨z1, by omega, z3⟩
      · rintro ⟨z1, z2, z3⟩
        by_cases e : w = 1 + (n : Nat)
        · subst e; rw [b] at z3; cases z3
        · exact ⟨z1, by omega, z3⟩
  · obtain ⟨F, c, rfl, hF, hin, hl⟩ := hs
    rw [rngL_len] at hin hl
    have e : rd 1 ⟨[.v (.loc 9), .lin (.lst (F.map pairP)), c], MS p own B t l⟩ = .ok (.p (.lst (F.map pairP))) ⟨[.v (.loc 9), .v (.p (.lst (F.map pairP))), c], MS p own B t l⟩ := rfl
    dsimp only
    refine wp_retB e ⟨F, rfl, ⟨hF, fun w => ?_⟩, by omega, rfl⟩
    rw [hin w]
    constructor
    · rintro ⟨z1, z2, z3⟩; exact ⟨z1, by omega, z3⟩
    · rintro ⟨z1, z2, z3⟩; exact ⟨z1, by omega, z3⟩
end
end K85
namespace K85
open PySem PySem.Spec PyProof.Rows L2 Dz
section
variable {p : Pre7} {own : List (L2.Key × D)} {B G F : List Pr} {t l z : Int} {pol : Str} {sl : List Sl} {f g go gi fk fv : Ev} {d k v : D} {s s1 s2 : Sta} {Q : Po}
theorem immP (xs : List P) : immOf (.p (.lst xs)) = some (xs.map .p) := rfl
theorem ei_walkG {G : List Pr} (hf : f s = .ok (.p (.lst (G.map pairP))) s1) : bnd f walkR s = .ok (G.map pD) s1 := by
  rw [bnd_ok hf, pD_map]
  rfl
theorem fits_ok (hR : Runs own t F) (ht : 1 ≤ t) (ht2 : t ≤ 5000) : ∃ d s, m__law_fits [.loc 9, .p (.int z)] (MS p own B t l) = .ok d s ∧ d = .p (.lst ((fits z F).map pairP)) ∧ F.length ≤ 5000 ∧ s.st = MS p own B t l := by
  have hsz : sizeLine = 16777216 := rfl
  obtain ⟨_, s1, e1, F', rfl, hR', hl, est⟩ := runs_ok (p := p) (own := own) (B := B) (l := l) ht ht2
  have : F' = F := ok_uniq hR'.1 hR.1 fun w => by rw [hR'.2 w, hR.2 w]
  subst this
  refine run_wp (R := fun d s => d = .p (.lst ((fits z F').map pairP)) ∧ F'.length ≤ 5000 ∧ s.st = MS p own B t l) rfl ?_
  show Wp (g__law_fits ⟨[.v (.loc 9), .v (.p (.int z)), .un], MS p own B t l⟩) _
  unfold g__law_fits
  have hc : callS m__law_runs (consA (rd 0) nilA) ⟨[.v (.loc 9), .v (.p (.int z)), .un], MS p own B t l⟩ = .ok (.p (.lst (F'.map pairP))) ⟨[.v (.loc 9), .v (.p (.int z)), .un], MS p own B t l⟩ := by
    have := callS_ok (s1 := ⟨[.v (.loc 9), .v (.p (.int z)), .un], MS p own B t l⟩) (ea_cons (ed_rd (n := 0) (d := .loc 9) rfl) ea_nil) e1
    rw [est] at this
    exact this
  refine wp_ret (d := .p (.lst ((fits z F').map pairP))) (ed_frz (lcF_pure (toD := pD) (xs := F') (s1 := ⟨[.v (.loc 9), .v (.p (.int z)), .un], MS p own B t l⟩) (fun q => decide (z ≤ q.2)) pairP (ei_walkG hc) (fun x _ => ⟨⟨[.v (.loc 9), .v (.p (.int z)), .v (pD x)], MS p own B t l⟩, rfl, rfl, ?_, fun _ => ed_rd rfl⟩) (by omega))) ⟨rfl, hl, rfl⟩
  exact et_b (eb_ge (i := x.2) (j := z) (ed_ixV (d := pD x) rfl ed_cst ix_t1) (ed_rd rfl))
theorem eb_str {x : Str} (hf : EvD f s (.p (.str pol))) : EvB (bnd2 f (cst (.p (.str x))) eqD) s (decide (pol = x)) := by
  rw [← eqP_str]; exact eb_eq hf ed_cst (by show min 0 0 ≤ 60; decide)
theorem eb_nestr {x : Str} (hf : EvD f s (.p (.str pol))) : EvB (bnd2 f (cst (.p (.str x))) neD) s (!decide (pol = x)) := by
  rw [← eqP_str]; exact eb_ne hf ed_cst (by show min 0 0 ≤ 60; decide)
theorem mapM_pairI : ∀ qs : List Pr, (qs.map pairP).mapM pairI = some qs
  | [] => rfl
  | q :: qs => by
    rw [List.map_cons, List.mapM_cons, mapM_pairI qs]
    rfl
theorem eb_isNil {xs : List P} (hf : EvD f s (.p (.lst xs))) : EvB (bnd2 f (frz (bnd nilA mkLin)) eqD) s xs.isEmpty := by
  have := eb_eq (y := .lst xs) (z := .lst []) (g := frz (bnd nilA mkLin)) hf rfl deep_nil
  rw [eqP_nil] at this
  exact this
/-- the address that the model picks -/
def Chose (pol : Str) (z t l : Int) (F : List Pr) (a : Int) : Prop :=
  ((pol = "bump" ∨ fits z F = []) ∧ a = t) ∨ ∃ (q : Pr) (F' : List Pr), pol ≠ "bump" ∧ fits z F = q :: F' ∧ a = (pickP pol l (q :: F') q).1
theorem fits_inc {lo : Int} (h : Ok lo F) : (fits z F).Pairwise fun q r => q.1 < r.1 := by
  have := (ok_inc h).filter (fun q => decide (z ≤ q.2))
  refine this.imp_of_mem fun {q r} hq _ e => ?_
  have := (ok_each h q (List.mem_filter.mp hq).1).2
  omega
theorem chosen_ok (hR : Runs own t F) (ht : 1 ≤ t) (ht2 : t ≤ 5000) : ∃ d s, m__law_chosen [.loc 9, .p (.str pol), .p (.int z)] (MS p own B t l) = .ok d s ∧ ∃ a, d = .p (.int a) ∧ Chose pol z t l F a ∧ s.st = MS p own B t l := by
  have hsz : sizeLine = 16777216 := rfl
  obtain ⟨_, s1, e1, rfl, hl, est⟩ := fits_ok (p := p) (B := B) (l := l) (z := z) hR ht ht2
  refine run_wp (R := fun d s => ∃ a, d = .p (.int a) ∧ Chose pol z t l F a ∧ s.st = MS p own B t l) rfl ?_
  show Wp (g__law_chosen ⟨[.v (.loc 9), .v (.p (.str pol)), .v (.p (.int z)), .un, .un, .un, .un], MS p own B t l⟩) _
  unfold g__law_chosen
  have hc : callS m__law_fits (consA (rd 0) (consA (rd 2) nilA)) ⟨[.v (.loc 9), .v (.p (.str pol)), .v (.p (.int z)), .un, .un, .un, .un], MS p own B t l⟩ = .ok (.p (.lst ((fits z F).map pairP))) ⟨[.v (.loc 9), .v (.p (.str pol)), .v (.p (.int z)), .un, .un, .un, .un], MS p own B t l⟩ := by
    have := callS_ok (s1 := ⟨[.v (.loc 9), .v (.p (.str pol)), .v (.p (.int z)), .un, .un, .un, .un], MS p own B t l⟩) (ea_cons (ed_rd (n := 0) (d := .loc 9) rfl) (ea_cons (ed_rd (n := 2) (d := .p (.int z)) rfl) ea_nil)) e1
    rw [est] at this
    exact this
  refine wp_seq (wp_setB hc ?_)
  dsimp only
  have hinc := fits_inc (z := z) hR.1
  have hfl : (fits z F).length ≤ 5000 := by
    have := List.length_filter_le (fun q : Pr => decide (z ≤ q.2)) F
    unfold fits; omega
  have e0 := et_or (t := bnd (bnd2 (rd 1) (cst (.p (.str "bump"))) eqD) isBl) (u := bnd (bnd2 (rd 3) (frz (bnd nilA mkLin)) eqD) isBl) (s := ⟨[.v (.loc 9), .v (.p (.str pol)), .v (.p (.int z)), .v (.p (.lst ((fits z F).map pairP))), .un, .un, .un], MS p own B t l⟩) (et_b (eb_str (pol := pol) (ed_rd rfl))) (fun _ => et_b (eb_isNil (ed_rd rfl)))
  refine wp_seq (wp_if e0 (fun b => ?_) fun b => wp_skip ?_)
  · refine wp_ret (d := .p (.int t)) (ef_top rfl) ⟨t, rfl, .inl ⟨?_, rfl⟩, rfl⟩
    rcases Bool.or_eq_true_iff.mp b with b | b
    · exact .inl (of_decide_eq_true b)
    · refine .inr ?_
      cases e : fits z F with
      | nil => rfl
      | cons q r => rw [e] at b; cases b
  obtain ⟨b1, b2⟩ := Bool.or_eq_false_iff.mp b
  have nb : pol ≠ "bump" := of_decide_eq_false b1
  cases e : fits z F with
  | nil => rw [e] at b2; cases b2
  | cons q F' =>
    rw [e] at hinc hfl
    have fin : ∀ a, a = (pickP pol l (q :: F') q).1 → Chose pol z t l F a := fun a ea => .inr ⟨q, F', nb, e, ea⟩
    dsimp only
    refine wp_seq (wp_if (et_b (eb_str (pol := pol) (ed_rd rfl))) (fun b => ?_) fun b => wp_skip ?_)
    · have b := of_decide_eq_true b
      obtain ⟨r, hr⟩ := best_head hinc
      have h1 : EvD (frz (bnd (asPk (frz (lcF (bnd (rd 3) walkR) [4, 5] (tupG 2 (namesG [4, 5])) yesT (bnd (consA (rd 5) (consA (rd 4) nilA)) mkTup)))) sortPF)) ⟨[.v (.loc 9), .v (.p (.str pol)), .v (.p (.int z)), .v (.p (.lst ((q :: F').map pairP))), .un, .un, .un], MS p own B t l⟩ (.p (.lst ((swp (minG (q :: F') q) :: r).map pairP))) := by
        refine ed_frz (m := .lst ((swp (minG (q :: F') q) :: r).map pairP)) ?_
        have h2 := ed_frz (lcF_map (own := [4, 5]) (t := tupG 2 (namesG [4, 5])) (fe := bnd (consA (rd 5) (consA (rd 4) nilA)) mkTup) (toD := pD) (xs := q :: F') (fi := bnd (rd 3) walkR) (s := ⟨[.v (.loc 9), .v (.p (.str pol)), .v (.p (.int z)), .v (.p (.lst ((q :: F').map pairP))), .un, .un, .un], MS p own B t l⟩) (s1 := ⟨[.v (.loc 9), .v (.p (.str pol)), .v (.p (.int z)), .v (.p (.lst ((q :: F').map pairP))), .un, .un, .un], MS p own B t l⟩) (fun x => pairP (swp x)) (ei_walkG (ed_rd rfl))
          (fun x _ => ⟨⟨[.v (.loc 9), .v (.p (.str pol)), .v (.p (.int z)), .v (.p (.lst ((q :: F').map pairP))), .v (.p (.int x.1)), .v (.p (.int x.2)), .un], MS p own B t l⟩, rfl, rfl, ed_pair (i := x.2) (j := x.1) (ed_rd rfl) (ed_rd rfl)⟩) (by omega))
        rw [bnd_ok (ep_as h2)]
        show (match (((q :: F').map fun x => pairP (swp x))).mapM pairI with | some qs => Res.ok (Lin.lst ((sortII qs).map pairP)) _ | none => .bad) = _
        rw [show ((q :: F').map fun x => pairP (swp x)) = ((q :: F').map swp).map pairP by rw [List.map_map]; rfl, mapM_pairI]
        dsimp only
        rw [hr]
      refine wp_ret (d := .p (.int (minG (q :: F') q).1)) (ed_ix (d := .p (pairP (swp (minG (q :: F') q)))) (ed_ix h1 ed_cst (ix_lst (n := 0) (by simp))) ed_cst ix_t1) ⟨_, rfl, fin _ ?_, rfl⟩
      unfold pickP
      rw [if_pos b]
    have nbest : pol ≠ "best" := of_decide_eq_false b
    have last : ∀ (x : Pr) (rest : List Pr), x = pickP pol l (q :: F') q → Wp (bndS (bnd2 (ixV 3 (cst (.p (.int 0)))) (cst (.p (.int 0))) ixD) retS ⟨[.v (.loc 9), .v (.p (.str pol)), .v (.p (.int z)), .v (.p (.lst ((x :: rest).map pairP))), .un, .un, .un], MS p own B t l⟩) (RetO fun d s => ∃ a, d = .p (.int a) ∧ Chose pol z t l F a ∧ s.st = MS p own B t l) := fun x rest ex =>
      wp_ret (d := .p (.int x.1)) (ed_ix (d := .p (pairP x)) (ed_ixV rfl ed_cst (ix_lst (n := 0) (by simp))) ed_cst ix_t0) ⟨x.1, rfl, fin _ (by rw [ex]), rfl⟩
    refine wp_seq (wp_if (et_b (eb_str (pol := pol) (ed_rd rfl))) (fun b => ?_) fun b => wp_skip ?_)
    · have bn := of_decide_eq_true b
      have hfl2 := ed_frz (lcF_pure (own := [6]) (t := nameG 6) (tt := bnd (bnd2 (ixV 6 (cst (.p (.int 0)))) (ixV 0 (cst (.p (.str "last")))) geD) isBl) (fe := rd 6) (toD := pD) (xs := q :: F') (fi := bnd (rd 3) walkR) (s := ⟨[.v (.loc 9), .v (.p (.str pol)), .v (.p (.int z)), .v (.p (.lst ((q :: F').map pairP))), .un, .un, .un], MS p own B t l⟩) (s1 := ⟨[.v (.loc 9), .v (.p (.str pol)), .v (.p (.int z)), .v (.p (.lst ((q :: F').map pairP))), .un, .un, .un], MS p own B t l⟩) (fun x => decide (l ≤ x.1)) pairP (ei_walkG (ed_rd rfl))
        (fun x _ => ⟨⟨[.v (.loc 9), .v (.p (.str pol)), .v (.p (.int z)), .v (.p (.lst ((q :: F').map pairP))), .un, .un, .v (pD x)], MS p own B t l⟩, rfl, rfl, et_b (eb_ge (i := x.1) (j := l) (ed_ixV (d := pD x) rfl ed_cst ix_t0) (ef_mlast rfl)), fun _ => ed_rd rfl⟩) (by omega))
      have hadd : EvD (bnd2 (frz (lcF (bnd (rd 3) walkR) [6] (nameG 6) (bnd (bnd2 (ixV 6 (cst (.p (.int 0)))) (ixV 0 (cst (.p (.str "last")))) geD) isBl) (rd 6))) (rd 3) addD) ⟨[.v (.loc 9), .v (.p (.str pol)), .v (.p (.int z)), .v (.p (.lst ((q :: F').map pairP))), .un, .un, .un], MS p own B t l⟩ (.p (.lst (((q :: F').filter fun x => decide (l ≤ x.1)).map pairP ++ (q :: F').map pairP))) := by
        unfold EvD
        rw [bnd2_ok hfl2 (ed_rd (n := 3) (d := .p (.lst ((q :: F').map pairP))) rfl)]
        refine okIf_ok (decide_eq_true ?_)
        have := List.length_filter_le (fun x : Pr => decide (l ≤ x.1)) (q :: F')
        rw [List.length_map, List.length_map]; omega
      rw [← List.map_append] at hadd
      have hpick : pickP pol l (q :: F') q = (((q :: F').filter fun x => decide (l ≤ x.1)) ++ q :: F').headD q := by
        unfold pickP
        rw [if_neg nbest, if_pos bn]
      cases hh : ((q :: F').filter fun x => decide (l ≤ x.1)) ++ q :: F' with
      | nil => have := congrArg List.length hh; simp at this
      | cons x rest =>
        rw [hh] at hpick hadd
        refine wp_set hadd ?_
        exact last x rest hpick.symm
    · have nn : pol ≠ "next" := of_decide_eq_false b
      dsimp only
      refine last q F' ?_
      unfold pickP
      rw [if_neg nbest, if_neg nn]
end
end K85
namespace K85
open PySem PySem.Spec PyProof.Rows L2 Dz
section
variable {p : Pre7} {own : List (L2.Key × D)} {B G F : List Pr} {t l z : Int} {pol : Str} {u : Int} {sl : List Sl} {f g go gi gk fk fv : Ev} {d k v x : D} {s s1 s2 : Sta} {Q : Po}
theorem sz_of {many v j : Int} (hu : HU u) (h0 : 0 ≤ many) (h1 : many ≤ 40) (hv : v = u * j) (hj : 1 ≤ j) (hm : j = 1 ∨ u * (j - 1) < many) (hq : many ≤ v) : v = sz u many := by
  unfold sz
  rw [Int.fdiv_eq_ediv_of_nonneg _ (by rcases hu with rfl | rfl | rfl | rfl <;> decide)]
  rcases hu with rfl | rfl | rfl | rfl <;> (split <;> omega)
theorem owns_put {w a : Int} {y : D} : owns (putD own (Sum.inl a) y) w = (decide (w = a) || owns own w) := by
  unfold owns
  rw [getK_put]
  congr 1
  exact decide_eq_decide.mpr ⟨fun e => by cases e; rfl, fun e => by rw [e]⟩
theorem owns_del {w a : Int} : owns (own.filter fun kv => decide (kv.1 ≠ (Sum.inl a : L2.Key))) w = (decide (w ≠ a) && owns own w) := by
  unfold owns
  rw [getK_del]
  congr 1
  exact decide_eq_decide.mpr ⟨fun h e => h (by rw [e]), fun h e => h (by cases e; rfl)⟩
theorem set_own {a : Int} {y : P} (hl : own.length ≤ 1000000) : setS (.loc 7) (.p (.int a)) (.p y) ⟨sl, MS p own B t l⟩ = some ⟨sl, MS p (putD own (Sum.inl a) (.p y)) B t l⟩ := by
  have hsz : sizeLine = 16777216 := rfl
  show (if own.length < sizeLine then some (⟨sl, some [p.a0, p.a1, p.a2, p.a3, p.a4, p.a5, p.a6, .dic (putD own (Sum.inl a) (.p y)), gvO B, mI t l]⟩ : Sta) else none) = _
  rw [if_pos (by omega)]
  rfl
theorem set_sizes {a : Int} (hB : B.length ≤ 1000) (hn : ∀ q ∈ B, q.1 ≠ a) : setS (.loc 8) (.p (.int a)) (.p (.int z)) ⟨sl, MS p own B t l⟩ = some ⟨sl, MS p own (B ++ [(a, z)]) t l⟩ := by
  have hsz : sizeLine = 16777216 := rfl
  show (if (B.map kvD).length < sizeLine then some (⟨sl, some [p.a0, p.a1, p.a2, p.a3, p.a4, p.a5, p.a6, .dic own, .dic (putD (B.map kvD) (Sum.inl a) (.p (.int z))), mI t l]⟩ : Sta) else none) = _
  rw [if_pos (by rw [List.length_map]; omega), put_B hn]
  rfl
theorem put_top {y : Int} : putAt (.d (.loc 9)) 0 (.p (.str "top")) (.p (.int y)) ⟨sl, MS p own B t l⟩ = some ⟨sl, MS p own B y l⟩ := rfl
theorem put_last {y : Int} : putAt (.d (.loc 9)) 0 (.p (.str "last")) (.p (.int y)) ⟨sl, MS p own B t l⟩ = some ⟨sl, MS p own B t y⟩ := rfl
def alP (pol : Str) (u : Int) : P := .tup [.str pol, .int u]
theorem mtake_ok {many : Int} (hu : HU u) (h0 : 0 ≤ many) (h1 : many ≤ 40) (hR : Runs own t F) (ht : 1 ≤ t) (ht2 : t ≤ 5000) (ho : own.length ≤ 100000) (hB : B.length ≤ 1000) (hn : ∀ a, Chose pol (sz u many) t l F a → ∀ q ∈ B, q.1 ≠ a) :
    ∃ d s, m__law_take [.loc 9, .p (alP pol u), .p (.int many)] (MS p own B t l) = .ok d s ∧ ∃ a own', d = .p (.int a) ∧ Chose pol (sz u many) t l F a ∧ (∀ w, owns own' w = (decide (a ≤ w ∧ w < a + sz u many) || owns own w)) ∧ own'.length ≤ own.length + 40 ∧
      s.st = MS p own' (B ++ [(a, sz u many)]) (if a + sz u many > t then a + sz u many else t) (a + sz u many) := by
  have hsz : sizeLine = 16777216 := rfl
  have hfu : fuel = 1099511627776 := rfl
  have hul : 1 ≤ u ∧ u ≤ 8 := by rcases hu with rfl | rfl | rfl | rfl <;> decide
  obtain ⟨z1, z2, z3⟩ := sz_le hu h0 h1
  refine run_wp (R := fun d s => ∃ a own', d = .p (.int a) ∧ Chose pol (sz u many) t l F a ∧ (∀ w, owns own' w = (decide (a ≤ w ∧ w < a + sz u many) || owns own w)) ∧ own'.length ≤ own.length + 40 ∧
      s.st = MS p own' (B ++ [(a, sz u many)]) (if a + sz u many > t then a + sz u many else t) (a + sz u many)) rfl ?_
  show Wp (g__law_take ⟨[.v (.loc 9), .v (.p (alP pol u)), .v (.p (.int many)), .un, .un, .un, .un, .un], MS p own B t l⟩) _
  unfold g__law_take
  refine wp_seq (wp_asg (s2 := ⟨[.v (.loc 9), .v (.p (alP pol u)), .v (.p (.int many)), .v (.p (.str pol)), .v (.p (.int u)), .un, .un, .un], MS p own B t l⟩) (ed_rd (n := 1) (d := .p (alP pol u)) rfl) rfl ?_)
  dsimp only
  refine wp_seq (wp_set (d := .p (.int u)) (ed_rd rfl) ?_)
  dsimp only
  generalize hA : (D.p (alP pol u)) = A
  refine wp_seq (wp_whileI (fun n s => ∃ v j : Int, s = ⟨[.v (.loc 9), .v A, .v (.p (.int many)), .v (.p (.str pol)), .v (.p (.int u)), .v (.p (.int v)), .un, .un], MS p own B t l⟩ ∧ v = u * j ∧ 1 ≤ j ∧ (j = 1 ∨ u * (j - 1) < many) ∧ n = (41 - v).toNat) (fun n s hs => ?_) fuel (41 - u).toNat _ ⟨u, 1, rfl, by omega, by omega, .inl rfl, rfl⟩ (by omega))
  obtain ⟨v, j, rfl, hv, hj, hm, rfl⟩ := hs
  have et : EvT (bnd (bnd2 (rd 5) (rd 2) ltD) isBl) ⟨[.v (.loc 9), .v A, .v (.p (.int many)), .v (.p (.str pol)), .v (.p (.int u)), .v (.p (.int v)), .un, .un], MS p own B t l⟩ (decide (v < many)) := et_b (eb_lt (ed_rd rfl) (ed_rd rfl))
  by_cases hlt : v < many
  · rw [decide_eq_true hlt] at et
    refine .inr ⟨_, et, ?_⟩
    refine wp_set (d := .p (.int (v + u))) (ed_add (i := v) (j := u) (ed_rd rfl) (ed_rd rfl)) ⟨(41 - (v + u)).toNat, by omega, v + u, j + 1, rfl, by rw [Int.mul_add, Int.mul_one, ← hv], by omega, .inr ?_, rfl⟩
    rw [show j + 1 - 1 = j by omega, ← hv]; exact hlt
  rw [decide_eq_false hlt] at et
  refine .inl ⟨_, et, ?_⟩
  have hvz := sz_of hu h0 h1 hv hj hm (by omega)
  subst hvz
  clear hv hm hj hlt et
  generalize sz u many = z at *
  dsimp only
  obtain ⟨_, s1, e1, a, rfl, hch, est⟩ := chosen_ok (p := p) (B := B) (l := l) (z := z) (pol := pol) hR ht ht2
  refine wp_seq (wp_setB (d := .p (.int a)) (s1 := ⟨[.v (.loc 9), .v A, .v (.p (.int many)), .v (.p (.str pol)), .v (.p (.int u)), .v (.p (.int z)), .un, .un], s1.st⟩) (callS_ok (s1 := ⟨[.v (.loc 9), .v A, .v (.p (.int many)), .v (.p (.str pol)), .v (.p (.int u)), .v (.p (.int z)), .un, .un], MS p own B t l⟩) (ea_cons (ed_rd (n := 0) (d := .loc 9) rfl) (ea_cons (ed_rd (n := 3) (d := .p (.str pol)) rfl) (ea_cons (ed_rd (n := 5) (d := .p (.int z)) rfl) ea_nil))) e1) ?_)
  rw [est]
  dsimp only
  obtain ⟨zn, hzn⟩ := Int.eq_ofNat_of_zero_le (show 0 ≤ z by omega)
  refine wp_seq (wp_rng (j := zn) (s1 := ⟨[.v (.loc 9), .v A, .v (.p (.int many)), .v (.p (.str pol)), .v (.p (.int u)), .v (.p (.int z)), .v (.p (.int a)), .un], MS p own B t l⟩) (fun n s => ∃ (own' : List (L2.Key × D)) (c : Sl), s = ⟨[.v (.loc 9), .v A, .v (.p (.int many)), .v (.p (.str pol)), .v (.p (.int u)), .v (.p (.int z)), .v (.p (.int a)), c], MS p own' B t l⟩ ∧ (∀ w, owns own' w = (decide (a ≤ w ∧ w < a + n) || owns own w)) ∧ own'.length ≤ own.length + n)
    (ea_cons (by rw [← hzn]; exact ed_rd rfl) ea_nil) (by omega) ⟨own, _, rfl, fun w => by rw [decide_eq_false (by omega), Bool.false_or], Nat.le_refl _⟩ (fun n s hnz hs => ?_) fun s hs => ?_)
  · obtain ⟨own', c, rfl, how, hol⟩ := hs
    show Wp (asgS _ _ ⟨[.v (.loc 9), .v A, .v (.p (.int many)), .v (.p (.str pol)), .v (.p (.int u)), .v (.p (.int z)), .v (.p (.int a)), .v (.p (.int n))], MS p own' B t l⟩) _
    refine wp_asg (ed_rd (n := 6) (d := .p (.int a)) rfl) (sub_ok (d := .loc 7) (ed_ixV (d := .loc 9) rfl ed_cst rfl) (ed_add (i := a) (j := n) (ed_rd rfl) (ed_rd rfl)) (set_own (by omega))) ⟨_, _, rfl, fun w => ?_, by have := len_put (kvs := own') (k := Sum.inl (a + n)) (v := .p (.int a)); omega⟩
    rw [owns_put, how w]
    by_cases c1 : w = a + n
    · rw [decide_eq_true c1, Bool.true_or, decide_eq_true (by omega), Bool.true_or]
    · rw [decide_eq_false c1, Bool.false_or]
      congr 1
      exact decide_eq_decide.mpr ⟨fun h => by omega, fun h => by omega⟩
  · obtain ⟨own', c, rfl, how, hol⟩ := hs
    rw [← hzn] at how
    dsimp only
    refine wp_seq (wp_asg (ed_rd (n := 5) (d := .p (.int z)) rfl) (sub_ok (d := .loc 8) (ed_ixV (d := .loc 9) rfl ed_cst rfl) (ed_rd (d := .p (.int a)) rfl) (set_sizes hB (hn a hch))) ?_)
    dsimp only
    refine wp_seq (wp_putV (d := .loc 9) (k := .p (.str "top")) (ed_max (i := t) (j := a + z) (ef_top rfl) (ed_add (i := a) (j := z) (ed_rd rfl) (ed_rd rfl))) rfl ed_cst put_top ?_)
    dsimp only
    refine wp_seq (wp_putV (d := .loc 9) (k := .p (.str "last")) (ed_add (i := a) (j := z) (ed_rd rfl) (ed_rd rfl)) rfl ed_cst put_last ?_)
    dsimp only
    exact wp_ret (d := .p (.int a)) (ed_rd rfl) ⟨a, own', rfl, hch, how, by omega, rfl⟩
/-! ### give -/
theorem pop_ok (h1 : EvD go s d) (hi : isDicS d s = true) (h2 : EvD gk s k) (h3 : popK d k s = some (x, s2)) : popE go gk s = .ok x s2 := by
  unfold popE
  rw [bnd_ok h1, if_pos hi, bnd_ok h2, h3]
theorem pop_own {w : Int} (h : owns own w = true) : ∃ x, popK (.loc 7) (.p (.int w)) ⟨sl, MS p own B t l⟩ = some (x, ⟨sl, MS p (own.filter fun kv => decide (kv.1 ≠ (Sum.inl w : L2.Key))) B t l⟩) := by
  unfold owns at h
  obtain ⟨x, e⟩ := Option.isSome_iff_exists.mp h
  refine ⟨x, ?_⟩
  show (getK own (Sum.inl w)).map (fun x => (x, (⟨sl, some [p.a0, p.a1, p.a2, p.a3, p.a4, p.a5, p.a6, .dic (own.filter fun kv => decide (kv.1 ≠ (Sum.inl w : L2.Key))), gvO B, mI t l]⟩ : Sta))) = _
  rw [e]
  rfl
theorem pop_sizes {top : Int} {q : Pr} (hb : Blk B top) (hq : q ∈ B) : ∃ x, popK (.loc 8) (.p (.int q.1)) ⟨sl, MS p own B t l⟩ = some (x, ⟨sl, MS p own (wout B q.1) t l⟩) := by
  refine ⟨.p (.int q.2), ?_⟩
  show (getK (B.map kvD) (Sum.inl q.1)).map (fun x => (x, (⟨sl, some [p.a0, p.a1, p.a2, p.a3, p.a4, p.a5, p.a6, .dic own, .dic ((B.map kvD).filter fun kv => decide (kv.1 ≠ (Sum.inl q.1 : L2.Key))), mI t l]⟩ : Sta))) = _
  rw [getK_B, find_B hb hq, del_B]
  rfl
theorem ef_sizes {neg : Bool} {a : Int} (h0 : sl[0]? = some (.v (.loc 9))) (hf : EvI f ⟨sl, MS p own B t l⟩ a) : EvB (inE neg f (asPk (ixV 0 (cst (.p (.str "sizes")))))) ⟨sl, MS p own B t l⟩ (if neg then !(B.any fun q => decide (q.1 = a)) else (B.any fun q => decide (q.1 = a))) := by
  have := eb_in (neg := neg) (d := .loc 8) (kvs := B.map kvD) (fo := ixV 0 (cst (.p (.str "sizes")))) (s := ⟨sl, MS p own B t l⟩) hf (ed_ixV (d := .loc 9) (e := .p (.str "sizes")) h0 ed_cst rfl) rfl rfl
  rw [mem_B] at this
  exact this
theorem mgive_no {a : Int} {A : D} (hn : (B.any fun q => decide (q.1 = a)) = false) : ∃ d s, m__law_give [.loc 9, A, .p (.int a)] (MS p own B t l) = .ok d s ∧ d = .p (.bl false) ∧ s.st = MS p own B t l := by
  refine run_wp (R := fun d s => d = .p (.bl false) ∧ s.st = MS p own B t l) rfl ?_
  show Wp (g__law_give ⟨[.v (.loc 9), .v A, .v (.p (.int a)), .un], MS p own B t l⟩) _
  unfold g__law_give
  refine wp_seq (wp_if (et_b (ef_sizes (neg := true) (a := a) rfl (ed_rd rfl))) (fun b => ?_) fun b => ?_)
  · exact wp_ret (d := .p (.bl false)) ed_cst ⟨rfl, rfl⟩
  · rw [hn] at b; cases b
/-- how far the top comes down -/
def Down (pol : Str) (own : List (L2.Key × D)) (t t' : Int) : Prop := (pol = "bump" ∧ t' = t) ∨ (pol ≠ "bump" ∧ 1 ≤ t' ∧ t' ≤ t ∧ (∀ w, t' ≤ w → w < t → owns own w = false) ∧ (t' = 1 ∨ owns own (t' - 1) = true))
theorem mgive_ok {top : Int} {q : Pr} (hb : Blk B top) (hq : q ∈ B) (ht : 1 ≤ t) (ht2 : t ≤ 5000) (hz : q.2 ≤ 40) (hw : ∀ w, q.1 ≤ w → w < q.1 + q.2 → owns own w = true) :
    ∃ d s, m__law_give [.loc 9, .p (alP pol u), .p (.int q.1)] (MS p own B t l) = .ok d s ∧ ∃ own' t', d = .p (.bl true) ∧ (∀ w, owns own' w = (!decide (q.1 ≤ w ∧ w < q.1 + q.2) && owns own w)) ∧ own'.length ≤ own.length ∧ Down pol own' t t' ∧ s.st = MS p own' (wout B q.1) t' l := by
  have hfu : fuel = 1099511627776 := rfl
  have hq1 := hb.each q hq
  refine run_wp (R := fun d s => ∃ own' t', d = .p (.bl true) ∧ (∀ w, owns own' w = (!decide (q.1 ≤ w ∧ w < q.1 + q.2) && owns own w)) ∧ own'.length ≤ own.length ∧ Down pol own' t t' ∧ s.st = MS p own' (wout B q.1) t' l) rfl ?_
  show Wp (g__law_give ⟨[.v (.loc 9), .v (.p (alP pol u)), .v (.p (.int q.1)), .un], MS p own B t l⟩) _
  unfold g__law_give
  refine wp_seq (wp_if (et_b (ef_sizes (neg := true) (a := q.1) rfl (ed_rd rfl))) (fun b => ?_) fun b => wp_skip ?_)
  · rw [List.any_eq_true.mpr ⟨q, hq, by simp⟩] at b; cases b
  dsimp only
  obtain ⟨zn, hzn⟩ := Int.eq_ofNat_of_zero_le (show 0 ≤ q.2 by omega)
  have hsize : EvI (bnd2 (ixV 0 (cst (.p (.str "sizes")))) (rd 2) ixD) ⟨[.v (.loc 9), .v (.p (alP pol u)), .v (.p (.int q.1)), .un], MS p own B t l⟩ (zn : Int) := by
    refine ed_ix (d := .loc 8) (e := .p (.int q.1)) (ed_ixV (d := .loc 9) rfl ed_cst rfl) (ed_rd rfl) ?_
    show getK (B.map kvD) (Sum.inl q.1) = _
    rw [getK_B, find_B hb hq, ← hzn]
    rfl
  refine wp_seq (wp_rng (j := zn) (s1 := ⟨[.v (.loc 9), .v (.p (alP pol u)), .v (.p (.int q.1)), .un], MS p own B t l⟩) (fun n s => ∃ (own' : List (L2.Key × D)) (c : Sl), s = ⟨[.v (.loc 9), .v (.p (alP pol u)), .v (.p (.int q.1)), c], MS p own' B t l⟩ ∧ (∀ w, owns own' w = (!decide (q.1 ≤ w ∧ w < q.1 + n) && owns own w)) ∧ own'.length ≤ own.length)
    (ea_cons hsize ea_nil) (by omega) ⟨own, _, rfl, fun w => by rw [decide_eq_false (by omega)]; rfl, Nat.le_refl _⟩ (fun n s hnz hs => ?_) fun s hs => ?_)
  · obtain ⟨own', c, rfl, how, hol⟩ := hs
    show Wp (bndS _ _ ⟨[.v (.loc 9), .v (.p (alP pol u)), .v (.p (.int q.1)), .v (.p (.int n))], MS p own' B t l⟩) _
    obtain ⟨x, ex⟩ := pop_own (p := p) (own := own') (B := B) (t := t) (l := l) (sl := [.v (.loc 9), .v (.p (alP pol u)), .v (.p (.int q.1)), .v (.p (.int n))]) (w := q.1 + n) (by rw [how, decide_eq_false (by omega), hw _ (by omega) (by omega)]; rfl)
    refine wp_drop (pop_ok (d := .loc 7) (ed_ixV (d := .loc 9) rfl ed_cst rfl) rfl (ed_add (i := q.1) (j := n) (ed_rd rfl) (ed_rd rfl)) ex) ⟨_, _, rfl, fun w => ?_, Nat.le_trans (List.length_filter_le _ _) hol⟩
    rw [owns_del, how w]
    by_cases c1 : w = q.1 + n
    · rw [decide_eq_false (by omega), Bool.false_and, decide_eq_true (by omega)]; rfl
    · rw [decide_eq_true c1, Bool.true_and]
      congr 2
      exact decide_eq_decide.mpr ⟨fun h => by omega, fun h => by omega⟩
  · obtain ⟨own', c, rfl, how, hol⟩ := hs
    rw [← hzn] at how
    dsimp only
    obtain ⟨x, ex⟩ := pop_sizes (p := p) (own := own') (t := t) (l := l) (sl := [.v (.loc 9), .v (.p (alP pol u)), .v (.p (.int q.1)), c]) hb hq
    refine wp_seq (wp_drop (pop_ok (d := .loc 8) (ed_ixV (d := .loc 9) rfl ed_cst rfl) rfl (ed_rd (d := .p (.int q.1)) rfl) ex) ?_)
    dsimp only
    refine wp_seq (wp_if (et_b (eb_nestr (pol := pol) (ed_ixV (d := .p (alP pol u)) rfl ed_cst ix_t0))) (fun b => ?_) fun b => wp_skip ?_)
    · have b : pol ≠ "bump" := by simpa using b
      refine wp_whileI (fun n s => ∃ t' : Int, s = ⟨[.v (.loc 9), .v (.p (alP pol u)), .v (.p (.int q.1)), c], MS p own' (wout B q.1) t' l⟩ ∧ 1 ≤ t' ∧ t' ≤ t ∧ (∀ w, t' ≤ w → w < t → owns own' w = false) ∧ n = t'.toNat) (fun n s hs => ?_) fuel t.toNat _ ⟨t, rfl, ht, Int.le_refl _, fun w w1 w2 => by omega, rfl⟩ (by omega)
      obtain ⟨t', rfl, k1, k2, k3, rfl⟩ := hs
      have et := et_and (t := bnd (bnd2 (ixV 0 (cst (.p (.str "top")))) (cst (.p (.int 1))) gtD) isBl) (u := bnd (inE true (bnd2 (ixV 0 (cst (.p (.str "top")))) (cst (.p (.int 1))) subD) (asPk (ixV 0 (cst (.p (.str "owner")))))) isBl) (s := ⟨[.v (.loc 9), .v (.p (alP pol u)), .v (.p (.int q.1)), c], MS p own' (wout B q.1) t' l⟩) (et_b (eb_gt (i := t') (j := 1) (ef_top rfl) ed_cst)) (fun _ => et_b (ef_own (neg := true) (a := t' - 1) rfl (ed_sub (i := t') (j := 1) (ef_top rfl) ed_cst)))
      rw [if_pos rfl] at et
      by_cases hc : 1 < t' ∧ owns own' (t' - 1) = false
      · rw [decide_eq_true hc.1, hc.2] at et
        refine .inr ⟨_, et, ?_⟩
        refine wp_putV (d := .loc 9) (k := .p (.str "top")) (ed_sub (i := t') (j := 1) (ef_top rfl) ed_cst) rfl ed_cst put_top ⟨(t' - 1).toNat, by omega, t' - 1, rfl, by omega, by omega, fun w w1 w2 => ?_, rfl⟩
        by_cases e : w = t' - 1
        · rw [e]; exact hc.2
        · exact k3 w (by omega) w2
      · have hf : (decide (1 < t') && !owns own' (t' - 1)) = false := by
          cases h2 : owns own' (t' - 1) with
          | true => rw [Bool.not_true, Bool.and_false]
          | false => rw [decide_eq_false (fun h => hc ⟨h, h2⟩), Bool.false_and]
        rw [hf] at et
        refine .inl ⟨_, et, ?_⟩
        dsimp only
        refine wp_ret (d := .p (.bl true)) ed_cst ⟨own', t', rfl, how, hol, .inr ⟨b, k1, k2, k3, ?_⟩, rfl⟩
        by_cases h1 : 1 < t'
        · right
          cases h2 : owns own' (t' - 1) with
          | true => rfl
          | false => exact (hc ⟨h1, h2⟩).elim
        · left; omega
    · have b : pol = "bump" := by simpa using b
      dsimp only
      exact wp_ret (d := .p (.bl true)) ed_cst ⟨own', t, rfl, how, hol, .inl ⟨b, rfl⟩, rfl⟩
end
end K85
namespace K85
open PySem PySem.Spec PyProof.Rows L2 Dz
/-- heap and model agree -/
structure J (pol : Str) (u : Int) (k n : Nat) (h l : Int) (B G : List Pr) (own : List (L2.Key × D)) : Prop where
  hu : HU u
  h1 : 1 ≤ h
  h2 : h ≤ 1 + 40 * k
  bl : Blk B h
  sz : ∀ q ∈ B, q.2 ≤ 40
  bn : B.length ≤ k
  ow : ∀ w, owns own w = true ↔ In B w
  ol : own.length ≤ 40 * k
  ok : Ok 0 G
  gi : ∀ w, In G w ↔ 1 ≤ w ∧ w < h ∧ owns own w = false
  gl : G.length ≤ n
  low : pol ≠ "bump" → h = 1 ∨ owns own (h - 1) = true
section
variable {pol : Str} {u h l z a : Int} {k n : Nat} {B G G' : List Pr} {own own' : List (L2.Key × D)} {h' : Int}
theorem J.runs (I : J pol u k n h l B G own) : Runs own h G := ⟨I.ok, I.gi⟩
theorem J.noB (I : J pol u k n h l B G own) {w : Int} (hw : In G w) : ¬ In B w := fun z => by
  have := ((I.gi w).mp hw).2.2
  rw [(I.ow w).mpr z] at this
  cases this
theorem J.took (I : J pol u k n h l B G own) (z1 : 1 ≤ z) (T : Took pol z h l G a G' h') :
    (∀ w, a ≤ w → w < a + z → ¬ In B w) ∧ 1 ≤ a ∧ h' = (if a + z > h then a + z else h) ∧ Ok 0 G' ∧ (∀ w, In G' w ↔ 1 ≤ w ∧ w < h' ∧ ¬ (a ≤ w ∧ w < a + z) ∧ owns own w = false) ∧ G'.length ≤ G.length ∧ Chose pol z h l G a ∧ (a + z = h' ∨ h' = h) := by
  have bound : ∀ w, In B w → w < h := fun w ⟨q, hq, q1, q2⟩ => by have := (I.bl.each q hq).2.2; omega
  rcases T with ⟨hb, e1, e2, e3⟩ | ⟨j, q, F, nb, hj, hz, hF, hp, ha, hG, eh⟩
  · subst e2 e3
    refine ⟨fun w w1 _ hw => by have := bound w hw; omega, by rw [e1]; exact I.h1, by rw [if_pos (by omega), e1], I.ok, fun w => ?_, Nat.le_refl _, .inl ⟨hb, e1⟩, .inl (by rw [e1])⟩
    rw [I.gi w]
    constructor
    · rintro ⟨x, y, v⟩; exact ⟨x, by omega, by omega, v⟩
    · rintro ⟨x, y, v, v2⟩; exact ⟨x, by omega, v2⟩
  · rw [eh]
    rw [getElem!_pos G j hj] at hz hp ha
    have eG : G = G.take j ++ G[j] :: G.drop (j + 1) := by rw [← List.drop_eq_getElem_cons hj, List.take_append_drop]
    have hl : (G.take j).length = j := by rw [List.length_take]; omega
    have hok := I.ok
    rw [eG] at hok
    obtain ⟨c1, c2⟩ := cutG_ok hok z1 hz
    rw [hl, ← eG] at c1 c2
    rw [← hG] at c1 c2
    rw [← ha] at c2
    have inG : ∀ w, a ≤ w → w < a + z → In G w := fun w w1 w2 => ⟨G[j], List.getElem_mem hj, by omega, by omega⟩
    have hah : a + z ≤ h := by have := ((I.gi _).mp (inG (a + z - 1) (by omega) (by omega))).2.1; omega
    refine ⟨fun w w1 w2 => I.noB (inG w w1 w2), ((I.gi a).mp (inG a (Int.le_refl _) (by omega))).1, by rw [if_neg (by omega)], c1, fun w => ?_, ?_, .inr ⟨q, F, nb, hF, by rw [ha, hp]⟩, .inr rfl⟩
    · rw [c2 w, I.gi w]
      constructor
      · rintro ⟨⟨x, y, v⟩, v2⟩; exact ⟨x, y, v2, v⟩
      · rintro ⟨x, y, v, v2⟩; exact ⟨⟨x, y, v2⟩, v⟩
    · rw [hG, cutG_at hj]
      split
      · rw [List.length_set]; exact Nat.le_refl _
      · rw [List.length_eraseIdx_of_lt hj]; omega
theorem fresh (h1 : 1 ≤ z) (hn : ∀ w, a ≤ w → w < a + z → ¬ In B w) {top : Int} (hb : Blk B top) : ∀ q ∈ B, q.1 ≠ a := fun q hq e => by
  have := (hb.each q hq).2.1
  exact hn a (Int.le_refl _) (by omega) ⟨q, hq, by omega, by omega⟩
theorem chose_uniq {F : List Pr} {a' : Int} (c : Chose pol z h l F a) (c' : Chose pol z h l F a') : a = a' := by
  rcases c with ⟨x, rfl⟩ | ⟨q, F1, nb, e, rfl⟩
  · rcases c' with ⟨_, rfl⟩ | ⟨q, F1, nb, e, rfl⟩
    · rfl
    · rcases x with x | x
      · exact (nb x).elim
      · rw [x] at e; cases e
  · rcases c' with ⟨x, rfl⟩ | ⟨q', F1', nb', e', rfl⟩
    · rcases x with x | x
      · exact (nb x).elim
      · rw [x] at e; cases e
    · rw [e] at e'
      cases e'
      rfl
/-- behind a take -/
theorem J.take (I : J pol u k n h l B G own) (z1 : 1 ≤ z) (z2 : z ≤ 40) (T : Took pol z h l G a G' h') (how : ∀ w, owns own' w = (decide (a ≤ w ∧ w < a + z) || owns own w)) (hol : own'.length ≤ own.length + 40) : J pol u (k + 1) n h' (a + z) (B ++ [(a, z)]) G' own' := by
  obtain ⟨t1, t2, t3, t4, t5, t6, t7, t8⟩ := I.took z1 T
  have ot : ∀ w, owns own' w = true ↔ (a ≤ w ∧ w < a + z) ∨ owns own w = true := fun w => by rw [how w, Bool.or_eq_true, decide_eq_true_eq]
  have hle : h ≤ h' ∧ a + z ≤ h' := by rw [t3]; split <;> omega
  have a40 : h' ≤ h + 40 := by
    rcases T with ⟨_, rfl, _, e⟩ | ⟨_, _, _, _, _, _, _, _, _, _, e⟩ <;> omega
  refine ⟨I.hu, by have := I.h1; omega, by have := I.h2; omega, blk_snoc I.bl hle.1 t2 z1 hle.2 t1, fun q hq => ?_, ?_, fun w => ?_, by have := I.ol; omega, t4, fun w => ?_, by have := I.gl; omega, fun nb => ?_⟩
  · rcases List.mem_append.mp hq with hq | hq
    · exact I.sz q hq
    · rw [List.mem_singleton] at hq; subst hq; exact z2
  · rw [List.length_append, List.length_singleton]; have := I.bn; omega
  · rw [ot w, in_app, in_cons, I.ow w]
    constructor
    · rintro (x | x)
      · exact .inr (.inl x)
      · exact .inl x
    · rintro (x | x | x)
      · exact .inr x
      · exact .inl x
      · exact (in_nil x).elim
  · rw [t5 w]
    constructor
    · rintro ⟨x, y, v, v2⟩; exact ⟨x, y, by rw [how w, decide_eq_false v, v2]; rfl⟩
    · rintro ⟨x, y, v⟩
      rw [how w, Bool.or_eq_false_iff] at v
      exact ⟨x, y, of_decide_eq_false v.1, v.2⟩
  · right
    rw [ot]
    rcases t8 with e | e
    · left; omega
    · rcases I.low nb with x | x
      · left
        rw [e] at hle ⊢
        omega
      · right; rw [e]; exact x
/-- behind a give -/
theorem J.give (I : J pol u k n h l B G own) {q : Pr} (hq : q ∈ B) {G1 : List Pr} (o1 : Ok 0 G1) (i1 : ∀ w, In G1 w ↔ In G w ∨ (q.1 ≤ w ∧ w < q.1 + q.2)) (ne : G1 ≠ []) (l1 : G1.length ≤ G.length + 1) {t' : Int} (how : ∀ w, owns own' w = (!decide (q.1 ≤ w ∧ w < q.1 + q.2) && owns own w)) (hol : own'.length ≤ own.length) (hd : Down pol own' h t') :
    J pol u k (n + 1) (lowered pol h G1).1 l (wout B q.1) (lowered pol h G1).2 own' ∧ (lowered pol h G1).1 = t' := by
  have hq1 := I.bl.each q hq
  have of : ∀ w, owns own' w = true ↔ owns own w = true ∧ ¬ (q.1 ≤ w ∧ w < q.1 + q.2) := fun w => by
    rw [how w, Bool.and_eq_true, Bool.not_eq_true', decide_eq_false_iff_not]
    exact And.comm
  have off : ∀ w, owns own' w = false ↔ owns own w = false ∨ (q.1 ≤ w ∧ w < q.1 + q.2) := fun w => by
    rw [how w, Bool.and_eq_false_iff, Bool.not_eq_false', decide_eq_true_eq]
    exact Or.comm
  have g1 : ∀ w, In G1 w ↔ 1 ≤ w ∧ w < h ∧ owns own' w = false := fun w => by
    rw [i1 w, I.gi w, off w]
    constructor
    · rintro (⟨x, y, v⟩ | x)
      · exact ⟨x, y, .inl v⟩
      · exact ⟨by omega, by omega, .inr x⟩
    · rintro ⟨x, y, v | v⟩
      · exact .inl ⟨x, y, v⟩
      · exact .inr v
  have ow : ∀ w, owns own' w = true ↔ In (wout B q.1) w := fun w => by rw [of w, in_wout I.bl hq, I.ow w]
  have bn : (wout B q.1).length ≤ k := Nat.le_trans (List.length_filter_le _ _) I.bn
  have szz : ∀ r ∈ wout B q.1, r.2 ≤ 40 := fun r hr => I.sz r (wout_mem.mp hr).1
  have bend : ∀ r ∈ wout B q.1, owns own' (r.1 + r.2 - 1) = true := fun r hr => (ow _).mpr ⟨r, hr, by have := (I.bl.each r (wout_mem.mp hr).1).2.1; omega, by omega⟩
  rcases hd with ⟨hb, rfl⟩ | ⟨nb, d1, d2, d3, d4⟩
  · have e : lowered pol t' G1 = (t', G1) := by unfold lowered; rw [if_pos hb]
    rw [e]
    exact ⟨⟨I.hu, I.h1, I.h2, blk_wout I.bl fun r hr => (I.bl.each r (wout_mem.mp hr).1).2.2, szz, bn, ow, by have := I.ol; omega, o1, g1, by have := I.gl; dsimp only; omega, fun x => (x hb).elim⟩, rfl⟩
  · rcases List.eq_nil_or_concat G1 with x | ⟨L, r, x⟩
    · exact (ne x).elim
    rw [List.concat_eq_append] at x
    subst x
    have e : lowered pol h (L ++ [r]) = if r.1 + r.2 = h then (r.1, L) else (h, L ++ [r]) := by
      unfold lowered
      rw [if_neg nb, List.getLast?_concat, List.dropLast_concat]
    rw [e]
    obtain ⟨k1, k2, k3, _⟩ := ok_app.mp o1
    have rin : ∀ w, r.1 ≤ w → w < r.1 + r.2 → In (L ++ [r]) w := fun w w1 w2 => in_app.mpr (.inr (in_cons.mpr (.inl ⟨w1, w2⟩)))
    have r1 := (g1 r.1).mp (rin r.1 (Int.le_refl _) (by omega))
    have rend := (g1 (r.1 + r.2 - 1)).mp (rin _ (by omega) (by omega))
    have Lin : ∀ w, In L w → w < r.1 - 0 := fun w hw => by
      obtain ⟨y, hy, y1, y2⟩ := hw
      have := (List.pairwise_append.mp (ok_inc o1)).2.2 y hy r (List.mem_singleton.mpr rfl)
      omega
    have len : L.length ≤ n ∧ (L ++ [r]).length ≤ n + 1 := by
      have := I.gl
      rw [List.length_append, List.length_singleton] at l1 ⊢
      omega
    split
    · rename_i he
      have below : 1 < r.1 → owns own' (r.1 - 1) = true := fun h1 => by
        cases x : owns own' (r.1 - 1) with
        | true => rfl
        | false =>
          have := (g1 (r.1 - 1)).mpr ⟨by omega, by omega, x⟩
          rcases in_app.mp this with y | y
          · obtain ⟨v, hv, v1, v2⟩ := y
            have := (List.pairwise_append.mp (ok_inc o1)).2.2 v hv r (List.mem_singleton.mpr rfl)
            omega
          · rcases in_cons.mp y with y | y
            · omega
            · exact (in_nil y).elim
      have et : t' = r.1 := by
        by_cases c1 : t' < r.1
        · have := d3 (r.1 - 1) (by omega) (by omega)
          rw [below (by omega)] at this
          cases this
        · by_cases c2 : r.1 < t'
          · rcases d4 with y | y
            · omega
            · have := ((g1 (t' - 1)).mp (rin _ (by omega) (by omega))).2.2
              rw [y] at this
              cases this
          · omega
      refine ⟨⟨I.hu, r1.1, by have := I.h2; dsimp only; omega, blk_wout I.bl fun y hy => ?_, szz, bn, ow, by have := I.ol; omega, k1, fun w => ?_, by have := len.1; dsimp only; omega, fun _ => ?_⟩, et.symm⟩
      · have hy2 := (I.bl.each y (wout_mem.mp hy).1)
        dsimp only
        by_cases c : y.1 + y.2 ≤ r.1
        · exact c
        · have b1 := bend y hy
          have := ((g1 (y.1 + y.2 - 1)).mp (rin _ (by omega) (by omega))).2.2
          rw [b1] at this
          cases this
      · dsimp only
        constructor
        · intro hw
          have := (g1 w).mp (in_app.mpr (.inl hw))
          have := Lin w hw
          exact ⟨by omega, by omega, ((g1 w).mp (in_app.mpr (.inl hw))).2.2⟩
        · rintro ⟨x, y, v⟩
          rcases in_app.mp ((g1 w).mpr ⟨x, by omega, v⟩) with m | m
          · exact m
          · rcases in_cons.mp m with m | m
            · omega
            · exact (in_nil m).elim
      · dsimp only
        by_cases c : r.1 = 1
        · exact .inl c
        · exact .inr (below (by omega))
    · rename_i he
      have up : owns own' (h - 1) = true ∨ h = 1 := by
        cases x : owns own' (h - 1) with
        | true => exact .inl rfl
        | false =>
          by_cases c : h = 1
          · exact .inr c
          · have := (g1 (h - 1)).mpr ⟨by have := I.h1; omega, by omega, x⟩
            rcases in_app.mp this with y | y
            · have := Lin _ y; omega
            · rcases in_cons.mp y with y | y
              · omega
              · exact (in_nil y).elim
      have et : t' = h := by
        by_cases c : t' = h
        · exact c
        · have := d3 (h - 1) (by omega) (by omega)
          rcases up with y | y
          · rw [y] at this; cases this
          · omega
      exact ⟨⟨I.hu, I.h1, I.h2, blk_wout I.bl fun y hy => (I.bl.each y (wout_mem.mp hy).1).2.2, szz, bn, ow, by have := I.ol; omega, o1, g1, len.2, fun _ => up.symm⟩, et.symm⟩
end
end K85
namespace K85
open PySem PySem.Spec PyProof.Rows L2 Dz
def oI (pol : Str) (u : Int) : MO := .ins "Heap" [("policy", .p (.str pol)), ("unit", .p (.int u)), ("given", .loc 5), ("gaps", .loc 6), ("height", .p (.int 1)), ("behind_last", .p (.int 1))]
def tl7 (pol : Str) (u : Int) (own : List (L2.Key × D)) (B : List Pr) (h l : Int) : List MO := [oI pol u, .dic [], .lst [], .dic own, gvO B, mI h l]
def ST (dr : MO) (pol : Str) (u h l : Int) (B G : List Pr) (own : List (L2.Key × D)) : Option (List MO) := HS dr pol u h l B G (tl7 pol u own B h l)
def pre (dr : MO) (pol : Str) (u h l : Int) (B G : List Pr) : Pre7 := ⟨dr, hI pol u h l, gvO B, gpO G, oI pol u, .dic [], .lst []⟩
section
variable {dr : MO} {pol : Str} {u h l z a : Int} {k n : Nat} {B G : List Pr} {own : List (L2.Key × D)} {sl : List Sl} {s s1 s2 : Sta} {go g f : Ev} {d e x y : D} {Q : Po}
theorem J.mono (I : J pol u k n h l B G own) {k' n' : Nat} (hk : k ≤ k') (hn : n ≤ n') : J pol u k' n' h l B G own :=
  ⟨I.hu, I.h1, by have := I.h2; omega, I.bl, I.sz, by have := I.bn; omega, I.ow, by have := I.ol; omega, I.ok, I.gi, by have := I.gl; omega, I.low⟩
theorem take_both {many : Int} (I : J pol u k n h l B G own) (hk : k ≤ 70) (hn : n ≤ 800) (m0 : 0 ≤ many) (m1 : many ≤ 40) : ∃ a s1 s2, m_Heap_take [.loc 1, .p (.int many)] (ST dr pol u h l B G own) = .ok (.p (.int a)) s1 ∧ m__law_take [.loc 9, .p (alP pol u), .p (.int many)] s1.st = .ok (.p (.int a)) s2 ∧
    ∃ h' l' B' G' own', s2.st = ST dr pol u h' l' B' G' own' ∧ J pol u (k + 1) n h' l' B' G' own' := by
  obtain ⟨z1, z2, z3⟩ := sz_le I.hu m0 m1
  have := I.gl
  have := I.bn
  have := I.h2
  have := I.ol
  obtain ⟨_, s1, e1, a, G', h', rfl, T, est1⟩ := take_ok (m := dr) (pol := pol) (u := u) (h := h) (l := l) (B := B) (G := G) (R := tl7 pol u own B h l) (many := many) I.hu (by omega) (by omega) (fun a G' h' T => fresh z1 (I.took z1 T).1 I.bl)
  obtain ⟨t1, t2, t3, t4, t5, t6, t7, t8⟩ := I.took z1 T
  obtain ⟨_, s2, e2, a2, own', rfl, hch, how, hol, est2⟩ := mtake_ok (p := pre dr pol u h' (a + sz u many) (B ++ [(a, sz u many)]) G') (own := own) (B := B) (t := h) (l := l) (F := G) (pol := pol) (u := u) (many := many) I.hu m0 m1 I.runs I.h1 (by omega) (by omega) (by omega) (fun a2 hch => by
    have := chose_uniq t7 hch
    subst this
    exact fresh z1 t1 I.bl)
  have := chose_uniq t7 hch
  subst this
  refine ⟨a, s1, s2, e1, by rw [est1]; exact e2, h', a + sz u many, B ++ [(a, sz u many)], G', own', ?_, I.take z1 z2 T how hol⟩
  rw [est2, ← t3]
  rfl
theorem give_no_both {A : D} (I : J pol u k n h l B G own) (hn : (B.any fun q => decide (q.1 = a)) = false) : ∃ s1 s2, m_Heap_give [.loc 1, .p (.int a)] (ST dr pol u h l B G own) = .ok (.p (.bl false)) s1 ∧ m__law_give [.loc 9, A, .p (.int a)] s1.st = .ok (.p (.bl false)) s2 ∧ s2.st = ST dr pol u h l B G own := by
  obtain ⟨_, s1, e1, rfl, est1⟩ := give_no (m := dr) (pol := pol) (u := u) (h := h) (l := l) (G := G) (R := tl7 pol u own B h l) hn
  obtain ⟨_, s2, e2, rfl, est2⟩ := mgive_no (p := pre dr pol u h l B G) (own := own) (t := h) (l := l) (A := A) hn
  exact ⟨s1, s2, e1, by rw [est1]; exact e2, est2⟩
theorem give_both {q : Pr} (I : J pol u k n h l B G own) (hk : k ≤ 71) (hn : n ≤ 800) (hq : q ∈ B) : ∃ s1 s2, m_Heap_give [.loc 1, .p (.int q.1)] (ST dr pol u h l B G own) = .ok (.p (.bl true)) s1 ∧ m__law_give [.loc 9, .p (alP pol u), .p (.int q.1)] s1.st = .ok (.p (.bl true)) s2 ∧
    ∃ h' G' own', s2.st = ST dr pol u h' l (wout B q.1) G' own' ∧ J pol u k (n + 1) h' l (wout B q.1) G' own' := by
  have := I.gl
  have := I.h2
  obtain ⟨_, s1, e1, rfl, G1, o1, i1, ne, l1, est1⟩ := give_ok (m := dr) (pol := pol) (u := u) (h := h) (l := l) (R := tl7 pol u own B h l) I.ok I.bl hq (by omega) (fun w hw hg => I.noB hg hw)
  obtain ⟨_, s2, e2, own', t', rfl, how, hol, hd, est2⟩ := mgive_ok (p := pre dr pol u (lowered pol h G1).1 l (wout B q.1) (lowered pol h G1).2) (own := own) (t := h) (l := l) (pol := pol) (u := u) I.bl hq I.h1 (by omega) (I.sz q hq) (fun w w1 w2 => (I.ow w).mpr ⟨q, hq, w1, w2⟩)
  obtain ⟨j1, j2⟩ := I.give hq o1 i1 ne l1 how hol hd
  refine ⟨s1, s2, e1, by rw [est1]; exact e2, _, _, own', ?_, j1⟩
  rw [est2, j2]
  rfl
/-- a draw, in the store of all -/
theorem next_ST {i m : Nat} (h0 : sl[i]? = some (.v (.loc 0))) (hg : ∀ st, EvI g ⟨sl, st⟩ m) (hm : 0 < m) (hd : IsDr dr) : ∃ (v : Nat) (dr' : MO), callS m__law_next (consA (rd i) (consA g nilA)) ⟨sl, ST dr pol u h l B G own⟩ = .ok (.p (.int v)) ⟨sl, ST dr' pol u h l B G own⟩ ∧ v < m ∧ IsDr dr' :=
  next_at (R := hI pol u h l :: gvO B :: gpO G :: tl7 pol u own B h l) h0 hg hm hd
theorem mapM_keyI : ∀ B : List Pr, (B.map kvD).mapM (fun kv => keyI kv.1) = some (B.map (·.1))
  | [] => rfl
  | q :: B => by
    rw [List.map_cons, List.mapM_cons, mapM_keyI B]
    rfl
theorem held_ok {i : Nat} (h0 : sl[i]? = some (.v (.loc 9))) : EvD (frz (bnd (asPk (ixV i (cst (.p (.str "sizes"))))) sortDF)) ⟨sl, ST dr pol u h l B G own⟩ (.p (.lst ((sortI (B.map (·.1))).map .int))) := by
  refine ed_frz (m := .lst ((sortI (B.map (·.1))).map .int)) ?_
  rw [bnd_ok (ep_as (ed_ixV (d := .loc 9) (e := .p (.str "sizes")) (x := .loc 8) h0 ed_cst rfl))]
  show (match (B.map kvD).mapM (fun kv => keyI kv.1) with | some ks => Res.ok (Lin.lst ((sortI ks).map .int)) _ | none => .bad) = _
  rw [mapM_keyI]
theorem sortI_mem {x : Int} (hx : x ∈ sortI (B.map (·.1))) : ∃ q ∈ B, q.1 = x := by
  have := (sortB_perm ltI (B.map (·.1))).mem_iff.mp hx
  obtain ⟨q, hq, e⟩ := List.mem_map.mp this
  exact ⟨q, hq, e⟩
theorem eqD_bl (b : Bool) : eqD (.p (.bl b)) (.p (.bl b)) s = .ok (.p (.bl true)) s := by cases b <;> rfl
theorem eqD_int (i : Int) : eqD (.p (.int i)) (.p (.int i)) s = .ok (.p (.bl true)) s := by
  unfold eqD cmpP
  show (match (if min 0 0 ≤ 60 then some (i == i) else none) with | some b => Res.ok (D.p (.bl b)) s | none => .bad) = _
  rw [if_pos (by decide)]
  simp
def dL (A : D) (b c d e : Sl) : List Sl := [.v (.loc 0), .v (.loc 1), .v (.loc 9), .v A, b, c, d, e]
theorem deed_ok (I : J pol u k n h l B G own) (hk : k ≤ 70) (hn : n ≤ 800) (hd : IsDr dr) : ∃ d s, m__law_deed [.loc 0, .loc 1, .loc 9, .p (alP pol u)] (ST dr pol u h l B G own) = .ok d s ∧ d = .p (.bl true) ∧
    ∃ dr' h' l' B' G' own', s.st = ST dr' pol u h' l' B' G' own' ∧ J pol u (k + 1) (n + 1) h' l' B' G' own' ∧ IsDr dr' := by
  refine run_wp (R := fun d s => d = .p (.bl true) ∧ ∃ dr' h' l' B' G' own', s.st = ST dr' pol u h' l' B' G' own' ∧ J pol u (k + 1) (n + 1) h' l' B' G' own' ∧ IsDr dr') rfl ?_
  generalize hA : (D.p (alP pol u)) = A
  show Wp (g__law_deed (⟨dL A .un .un .un .un, ST dr pol u h l B G own⟩)) _
  unfold g__law_deed
  refine wp_seq (wp_set (held_ok (i := 2) rfl) ?_)
  generalize hks : sortI (B.map (·.1)) = ks
  obtain ⟨pick, dr1, e1, p1, hd1⟩ := next_ST (dr := dr) (pol := pol) (u := u) (h := h) (l := l) (B := B) (G := G) (own := own) (i := 0) (m := 10) (g := cst (.p (.int 10))) (sl := (dL A (.v (.p (.lst (ks.map .int)))) .un .un .un)) rfl (fun _ => ed_cst) (by decide) hd
  refine wp_seq (wp_setB e1 ?_)
  show Wp (seqS _ _ (⟨dL A (.v (.p (.lst (ks.map .int)))) (.v (.p (.int pick))) .un .un, ST dr1 pol u h l B G own⟩)) _
  have e0 := et_or (t := bnd (bnd2 (rd 5) (cst (.p (.int 6))) ltD) isBl) (u := bnd (bnd2 (rd 4) (frz (bnd nilA mkLin)) eqD) isBl) (s := ⟨dL A (.v (.p (.lst (ks.map .int)))) (.v (.p (.int pick))) .un .un, ST dr1 pol u h l B G own⟩) (et_b (eb_lt (i := pick) (j := 6) (ed_rd rfl) ed_cst)) (fun _ => et_b (eb_isNil (ed_rd rfl)))
  refine wp_seq (wp_if e0 (fun b => ?_) fun b => wp_skip ?_)
  · -- a take
    obtain ⟨v1, dr2, e2, p2, hd2⟩ := next_ST (dr := dr1) (pol := pol) (u := u) (h := h) (l := l) (B := B) (G := G) (own := own) (i := 0) (m := 4) (g := cst (.p (.int 4))) (sl := (dL A (.v (.p (.lst (ks.map .int)))) (.v (.p (.int pick))) .un .un)) rfl (fun _ => ed_cst) (by decide) hd1
    obtain ⟨v2, dr3, e3, p3, hd3⟩ := next_ST (dr := dr2) (pol := pol) (u := u) (h := h) (l := l) (B := B) (G := G) (own := own) (i := 0) (m := 12) (g := cst (.p (.int 12))) (sl := (dL A (.v (.p (.lst (ks.map .int)))) (.v (.p (.int pick))) .un .un)) rfl (fun _ => ed_cst) (by decide) hd2
    obtain ⟨v3, dr4, e4, p4, hd4⟩ := next_ST (dr := dr3) (pol := pol) (u := u) (h := h) (l := l) (B := B) (G := G) (own := own) (i := 0) (m := 41) (g := cst (.p (.int 41))) (sl := (dL A (.v (.p (.lst (ks.map .int)))) (.v (.p (.int pick))) .un .un)) rfl (fun _ => ed_cst) (by decide) hd3
    obtain ⟨v4, dr5, e5, p5, hd5⟩ := next_ST (dr := dr4) (pol := pol) (u := u) (h := h) (l := l) (B := B) (G := G) (own := own) (i := 0) (m := 3) (g := cst (.p (.int 3))) (sl := (dL A (.v (.p (.lst (ks.map .int)))) (.v (.p (.int pick))) .un .un)) rfl (fun _ => ed_cst) (by decide) hd4
    have eF := consA_ok e2 (consA_ok e3 (consA_ok e4 (ea_nil (s := ⟨(dL A (.v (.p (.lst (ks.map .int)))) (.v (.p (.int pick))) .un .un), ST dr4 pol u h l B G own⟩))))
    have eL : frz (bnd (consA (callS m__law_next (consA (rd 0) (consA (cst (.p (.int 4))) nilA))) (consA (callS m__law_next (consA (rd 0) (consA (cst (.p (.int 12))) nilA))) (consA (callS m__law_next (consA (rd 0) (consA (cst (.p (.int 41))) nilA))) nilA))) mkLin) (⟨dL A (.v (.p (.lst (ks.map .int)))) (.v (.p (.int pick))) .un .un, ST dr1 pol u h l B G own⟩) = .ok (.p (.lst [.int v1, .int v2, .int v3])) (⟨dL A (.v (.p (.lst (ks.map .int)))) (.v (.p (.int pick))) .un .un, ST dr4 pol u h l B G own⟩) := by
      unfold frz
      rw [bnd_ok (show bnd _ mkLin _ = _ from bnd_ok eF)]
      rfl
    obtain ⟨w, hw, hw40⟩ : ∃ w : Nat, ixO (.p (.lst [.int v1, .int v2, .int v3])) (.p (.int v4)) (⟨dL A (.v (.p (.lst (ks.map .int)))) (.v (.p (.int pick))) .un .un, ST dr5 pol u h l B G own⟩) = some (.p (.int w)) ∧ w ≤ 40 := by
      have h3 : v4 = 0 ∨ v4 = 1 ∨ v4 = 2 := by omega
      rcases h3 with rfl | rfl | rfl
      · exact ⟨v1, ix_lst (n := 0) (by simp), by omega⟩
      · exact ⟨v2, ix_lst (n := 1) (by simp), by omega⟩
      · exact ⟨v3, ix_lst (n := 2) (by simp), by omega⟩
    have eM : bnd2 (frz (bnd (consA (callS m__law_next (consA (rd 0) (consA (cst (.p (.int 4))) nilA))) (consA (callS m__law_next (consA (rd 0) (consA (cst (.p (.int 12))) nilA))) (consA (callS m__law_next (consA (rd 0) (consA (cst (.p (.int 41))) nilA))) nilA))) mkLin)) (callS m__law_next (consA (rd 0) (consA (cst (.p (.int 3))) nilA))) ixD (⟨dL A (.v (.p (.lst (ks.map .int)))) (.v (.p (.int pick))) .un .un, ST dr1 pol u h l B G own⟩) = .ok (.p (.int w)) (⟨dL A (.v (.p (.lst (ks.map .int)))) (.v (.p (.int pick))) .un .un, ST dr5 pol u h l B G own⟩) := by
      rw [bnd2_ok eL e5]
      unfold ixD
      rw [show ixO (.p (.lst [.int v1, .int v2, .int v3])) (.p (.int v4)) ⟨(dL A (.v (.p (.lst (ks.map .int)))) (.v (.p (.int pick))) .un .un), ST dr5 pol u h l B G own⟩ = _ from hw]
    refine wp_seq (wp_setB eM ?_)
    show Wp (bndS _ _ (⟨dL A (.v (.p (.lst (ks.map .int)))) (.v (.p (.int pick))) (.v (.p (.int w))) .un, ST dr5 pol u h l B G own⟩)) _
    obtain ⟨a, s1, s2, t1, t2, h', l', B', G', own', est, j⟩ := take_both (dr := dr5) (many := w) I hk hn (by omega) (by omega)
    rw [hA] at t2
    have m1 := meth_ok (go := rd 1) (sl := (dL A (.v (.p (.lst (ks.map .int)))) (.v (.p (.int pick))) (.v (.p (.int w))) .un)) (m := dr5) (pol := pol) (u := u) (h := h) (l := l) (B := B) (G := G) (R := tl7 pol u own B h l) (mn := "take") (mo := m_Heap_take) (fa := consA (rd 6) nilA) (ds := [.p (.int w)]) (ed_rd rfl) rfl (ea_cons (ed_rd rfl) ea_nil) t1
    have m2 := callS_ok (m := m__law_take) (fa := consA (rd 2) (consA (rd 3) (consA (rd 6) nilA))) (ds := [.loc 9, A, .p (.int w)]) (s := ⟨dL A (.v (.p (.lst (ks.map .int)))) (.v (.p (.int pick))) (.v (.p (.int w))) .un, s1.st⟩) (s1 := ⟨dL A (.v (.p (.lst (ks.map .int)))) (.v (.p (.int pick))) (.v (.p (.int w))) .un, s1.st⟩) (ea_cons (ed_rd rfl) (ea_cons (ed_rd rfl) (ea_cons (ed_rd rfl) ea_nil))) t2
    refine wp_retB (d := .p (.bl true)) (s1 := ⟨dL A (.v (.p (.lst (ks.map .int)))) (.v (.p (.int pick))) (.v (.p (.int w))) .un, s2.st⟩) ?_ ⟨rfl, dr5, h', l', B', G', own', est, j.mono (Nat.le_refl _) (by omega), hd5⟩
    have m1' : methE "Heap" "take" m_Heap_take (rd 1) (consA (rd 6) nilA) (⟨dL A (.v (.p (.lst (ks.map .int)))) (.v (.p (.int pick))) (.v (.p (.int w))) .un, ST dr5 pol u h l B G own⟩) = .ok (.p (.int a)) (⟨dL A (.v (.p (.lst (ks.map .int)))) (.v (.p (.int pick))) (.v (.p (.int w))) .un, s1.st⟩) := m1
    rw [bnd2_ok m1' m2]
    exact eqD_int a
  · -- a give
    obtain ⟨b1, b2⟩ := Bool.or_eq_false_iff.mp b
    have hne : 0 < ks.length := by
      cases ks with
      | nil => cases b2
      | cons _ _ => simp
    dsimp only
    obtain ⟨v1, dr2, e2, p2, hd2⟩ := next_ST (dr := dr1) (pol := pol) (u := u) (h := h) (l := l) (B := B) (G := G) (own := own) (i := 0) (m := ks.length) (g := bnd (pk 4) (fnK lenP)) (sl := (dL A (.v (.p (.lst (ks.map .int)))) (.v (.p (.int pick))) .un .un)) rfl (fun st => by
      have := ed_len (fp := pk 4) (d := .p (.lst (ks.map .int))) (ds := (ks.map P.int).map D.p) (s := ⟨(dL A (.v (.p (.lst (ks.map .int)))) (.v (.p (.int pick))) .un .un), st⟩) (ep_pk rfl) rfl
      rw [List.length_map, List.length_map] at this
      exact this) hne hd1
    have eA : ixV 4 (callS m__law_next (consA (rd 0) (consA (bnd (pk 4) (fnK lenP)) nilA))) (⟨dL A (.v (.p (.lst (ks.map .int)))) (.v (.p (.int pick))) .un .un, ST dr1 pol u h l B G own⟩) = .ok (.p (.int ks[v1])) (⟨dL A (.v (.p (.lst (ks.map .int)))) (.v (.p (.int pick))) .un .un, ST dr2 pol u h l B G own⟩) := by
      unfold ixV
      rw [bnd_ok (show pk 4 _ = .ok (.d (.p (.lst (ks.map .int)))) _ from ep_pk rfl), bnd_ok e2, bnd_ok (show pk 4 _ = .ok (.d (.p (.lst (ks.map .int)))) _ from ep_pk rfl)]
      have : ixPk (.d (.p (.lst (ks.map .int)))) (.p (.int v1)) ⟨(dL A (.v (.p (.lst (ks.map .int)))) (.v (.p (.int pick))) .un .un), ST dr2 pol u h l B G own⟩ = some (.p (.int ks[v1])) := by
        exact (ix_lst (ys := ks.map .int) (n := v1) (s := ⟨(dL A (.v (.p (.lst (ks.map .int)))) (.v (.p (.int pick))) .un .un), ST dr2 pol u h l B G own⟩) (by rw [List.length_map]; exact p2)).trans (by simp)
      rw [this]
    refine wp_seq (wp_setB eA ?_)
    show Wp (seqS _ _ (⟨dL A (.v (.p (.lst (ks.map .int)))) (.v (.p (.int pick))) .un (.v (.p (.int ks[v1]))), ST dr2 pol u h l B G own⟩)) _
    have fin : ∀ (a : Int) (dr3 : MO), IsDr dr3 → Wp (bndS (bnd2 (methE "Heap" "give" m_Heap_give (rd 1) (consA (rd 7) nilA)) (callS m__law_give (consA (rd 2) (consA (rd 3) (consA (rd 7) nilA)))) eqD) retS (⟨dL A (.v (.p (.lst (ks.map .int)))) (.v (.p (.int pick))) .un (.v (.p (.int a))), ST dr3 pol u h l B G own⟩)) (RetO fun d s => d = .p (.bl true) ∧ ∃ dr' h' l' B' G' own', s.st = ST dr' pol u h' l' B' G' own' ∧ J pol u (k + 1) (n + 1) h' l' B' G' own' ∧ IsDr dr') := fun a dr3 hd3 => by
      have both : ∃ (r : Bool) (s1 s2 : Sta), m_Heap_give [.loc 1, .p (.int a)] (ST dr3 pol u h l B G own) = .ok (.p (.bl r)) s1 ∧ m__law_give [.loc 9, A, .p (.int a)] s1.st = .ok (.p (.bl r)) s2 ∧ ∃ h' l' B' G' own', s2.st = ST dr3 pol u h' l' B' G' own' ∧ J pol u (k + 1) (n + 1) h' l' B' G' own' := by
        cases hany : B.any fun q => decide (q.1 = a) with
        | false =>
          obtain ⟨s1, s2, t1, t2, est⟩ := give_no_both (dr := dr3) (A := A) I hany
          exact ⟨false, s1, s2, t1, t2, h, l, B, G, own, est, I.mono (by omega) (by omega)⟩
        | true =>
          obtain ⟨q, hq, eq⟩ := List.any_eq_true.mp hany
          have eq := of_decide_eq_true eq
          subst eq
          obtain ⟨s1, s2, t1, t2, h', G', own', est, j⟩ := give_both (dr := dr3) I (by omega) hn hq
          rw [hA] at t2
          exact ⟨true, s1, s2, t1, t2, h', l, _, G', own', est, j.mono (by omega) (Nat.le_refl _)⟩
      obtain ⟨r, s1, s2, t1, t2, h', l', B', G', own', est, j⟩ := both
      have m1 := meth_ok (go := rd 1) (sl := (dL A (.v (.p (.lst (ks.map .int)))) (.v (.p (.int pick))) .un (.v (.p (.int a))))) (m := dr3) (pol := pol) (u := u) (h := h) (l := l) (B := B) (G := G) (R := tl7 pol u own B h l) (mn := "give") (mo := m_Heap_give) (fa := consA (rd 7) nilA) (ds := [.p (.int a)]) (ed_rd rfl) rfl (ea_cons (ed_rd rfl) ea_nil) t1
      have m2 := callS_ok (m := m__law_give) (fa := consA (rd 2) (consA (rd 3) (consA (rd 7) nilA))) (ds := [.loc 9, A, .p (.int a)]) (s := ⟨dL A (.v (.p (.lst (ks.map .int)))) (.v (.p (.int pick))) .un (.v (.p (.int a))), s1.st⟩) (s1 := ⟨dL A (.v (.p (.lst (ks.map .int)))) (.v (.p (.int pick))) .un (.v (.p (.int a))), s1.st⟩) (ea_cons (ed_rd rfl) (ea_cons (ed_rd rfl) (ea_cons (ed_rd rfl) ea_nil))) t2
      refine wp_retB (d := .p (.bl true)) (s1 := ⟨dL A (.v (.p (.lst (ks.map .int)))) (.v (.p (.int pick))) .un (.v (.p (.int a))), s2.st⟩) ?_ ⟨rfl, dr3, h', l', B', G', own', est, j, hd3⟩
      have m1' : methE "Heap" "give" m_Heap_give (rd 1) (consA (rd 7) nilA) (⟨dL A (.v (.p (.lst (ks.map .int)))) (.v (.p (.int pick))) .un (.v (.p (.int a))), ST dr3 pol u h l B G own⟩) = .ok (.p (.bl r)) (⟨dL A (.v (.p (.lst (ks.map .int)))) (.v (.p (.int pick))) .un (.v (.p (.int a))), s1.st⟩) := m1
      rw [bnd2_ok m1' m2]
      exact eqD_bl r
    refine wp_seq (wp_if (et_b (eb_eqI (i := pick) (j := 9) (ed_rd rfl) ed_cst)) (fun _ => ?_) fun _ => wp_skip (fin _ dr2 hd2))
    obtain ⟨v2, dr3, e3, p3, hd3⟩ := next_ST (dr := dr2) (pol := pol) (u := u) (h := h) (l := l) (B := B) (G := G) (own := own) (i := 0) (m := 9) (g := cst (.p (.int 9))) (sl := (dL A (.v (.p (.lst (ks.map .int)))) (.v (.p (.int pick))) .un (.v (.p (.int ks[v1]))))) rfl (fun _ => ed_cst) (by decide) hd2
    have eB : bnd2 (bnd2 (rd 7) (cst (.p (.int 1))) addD) (callS m__law_next (consA (rd 0) (consA (cst (.p (.int 9))) nilA))) addD (⟨dL A (.v (.p (.lst (ks.map .int)))) (.v (.p (.int pick))) .un (.v (.p (.int ks[v1]))), ST dr2 pol u h l B G own⟩) = .ok (.p (.int (ks[v1] + 1 + v2))) (⟨dL A (.v (.p (.lst (ks.map .int)))) (.v (.p (.int pick))) .un (.v (.p (.int ks[v1]))), ST dr3 pol u h l B G own⟩) := by
      rw [bnd2_ok (show bnd2 (rd 7) (cst (.p (.int 1))) addD _ = _ from ed_add (i := ks[v1]) (j := 1) (ed_rd rfl) ed_cst) e3]
      rfl
    refine wp_setB eB ?_
    exact fin (ks[v1] + 1 + v2) dr3 hd3
end
end K85
namespace K85
open PySem PySem.Spec PyProof.Rows L2 Dz
section
variable {dr : MO} {pol : Str} {u h l z a : Int} {k n : Nat} {B G : List Pr} {own : List (L2.Key × D)} {sl : List Sl} {s s1 s2 : Sta} {go g f : Ev} {d e x y : D} {Q : Po}
theorem deep_pairs (qs : List Pr) : deepL (qs.map pairP) ≤ 1 := by
  induction qs with
  | nil => exact Nat.zero_le _
  | cons q qs ih =>
    rw [List.map_cons, deepL]
    have : deep (pairP q) = 1 := rfl
    omega
theorem deep_tp (qs : List Pr) : deep (.tup (qs.map pairP)) ≤ 60 := by
  have := deep_pairs qs
  rw [deep]; omega
theorem eb_neR {y : P} (hf : EvD f s (.p y)) (hg : EvD g s (.p y)) (hd : deep y ≤ 60) : EvB (bnd2 f g neD) s false := by
  have := eb_ne hf hg (by omega)
  rw [eqP_refl] at this
  exact this
theorem eb_eqR {y : P} (hf : EvD f s (.p y)) (hg : EvD g s (.p y)) (hd : deep y ≤ 60) : EvB (bnd2 f g eqD) s true := by
  have := eb_eq hf hg (by omega)
  rw [eqP_refl] at this
  exact this
theorem em_ok {mn : Str} {mo : Fn} {fa : Sta → Res (List D)} {ds : List D} {s' : Sta} (h0 : EvD go ⟨sl, ST dr pol u h l B G own⟩ (.loc 1)) (hi : isIns "Heap" mn (.loc 1) ⟨sl, ST dr pol u h l B G own⟩ = true) (hfa : fa ⟨sl, ST dr pol u h l B G own⟩ = .ok ds ⟨sl, ST dr pol u h l B G own⟩) (he : mo (.loc 1 :: ds) (ST dr pol u h l B G own) = .ok d s') (hs : s'.st = ST dr pol u h l B G own) :
    EvD (methE "Heap" mn mo go fa) ⟨sl, ST dr pol u h l B G own⟩ d := by
  have := meth_ok (R := tl7 pol u own B h l) h0 hi hfa he
  rw [hs] at this
  exact this
theorem all_true {α : Type} (L : List α) : allP (.d (.p (.lst (L.map fun _ => P.bl true)))) s = some (.bl true) := by
  unfold allP
  rw [if_pos (show isLst (.d (.p (.lst (L.map fun _ => P.bl true)))) s = true from rfl)]
  have : blsOf (.d (.p (.lst (L.map fun _ => P.bl true)))) s = some (L.map fun _ => true) := by
    unfold blsOf
    show (((L.map fun _ => P.bl true).map D.p).mapM _) = _
    induction L with
    | nil => rfl
    | cons x L ih =>
      rw [List.map_cons, List.map_cons, List.mapM_cons, ih]
      rfl
  rw [this]
  show some (P.bl ((L.map fun _ => true).all id)) = _
  congr 2
  rw [List.all_map]
  exact List.all_eq_true.mpr fun _ _ => rfl
theorem told_ok (I : J pol u k n h l B G own) (hk : k ≤ 71) (hn : n ≤ 800) : ∃ d s, m__law_as_told [.loc 1, .loc 9] (ST dr pol u h l B G own) = .ok d s ∧ d = .p (.bl true) ∧ s.st = ST dr pol u h l B G own := by
  have hsz : sizeLine = 16777216 := rfl
  have hbn := I.bn
  have hh := I.h2
  refine run_wp (R := fun d s => d = .p (.bl true) ∧ s.st = ST dr pol u h l B G own) rfl ?_
  show Wp (g__law_as_told ⟨[.v (.loc 1), .v (.loc 9), .un, .un, .un], ST dr pol u h l B G own⟩) _
  unfold g__law_as_told
  have hkl : (sortI (B.map (·.1))).length ≤ sizeLine := by
    have := (sortB_perm ltI (B.map (·.1))).length_eq
    rw [List.length_map] at this
    show (sortB ltI (B.map (·.1))).length ≤ _
    omega
  have e1 := lcF_map (own := [3]) (t := nameG 3) (fe := bnd (consA (rd 3) (consA (bnd2 (ixV 1 (cst (.p (.str "sizes")))) (rd 3) ixD) nilA)) mkTup) (toD := fun x : Int => D.p (.int x)) (xs := sortI (B.map (·.1))) (fi := bnd (frz (bnd (asPk (ixV 1 (cst (.p (.str "sizes"))))) sortDF)) walkR) (s := ⟨[.v (.loc 1), .v (.loc 9), .un, .un, .un], ST dr pol u h l B G own⟩) (s1 := ⟨[.v (.loc 1), .v (.loc 9), .un, .un, .un], ST dr pol u h l B G own⟩) (fun x => pairP (x, ((B.find? fun q => decide (q.1 = x)).map (·.2)).getD 0))
    (by
      have := ei_walk (ys := (sortI (B.map (·.1))).map .int) (held_ok (dr := dr) (pol := pol) (u := u) (h := h) (l := l) (B := B) (G := G) (own := own) (i := 1) (sl := [.v (.loc 1), .v (.loc 9), .un, .un, .un]) rfl) rfl
      rw [List.map_map] at this
      exact this)
    (fun x hx => by
      obtain ⟨q, hq, rfl⟩ := sortI_mem hx
      refine ⟨⟨[.v (.loc 1), .v (.loc 9), .un, .v (.p (.int q.1)), .un], ST dr pol u h l B G own⟩, rfl, rfl, ?_⟩
      rw [find_B I.bl hq]
      refine ed_pair (i := q.1) (j := q.2) (ed_rd rfl) (ed_ix (d := .loc 8) (e := .p (.int q.1)) (ed_ixV (d := .loc 9) rfl ed_cst rfl) (ed_rd rfl) ?_)
      show getK (B.map kvD) (Sum.inl q.1) = _
      rw [getK_B, find_B I.bl hq]
      rfl) hkl
  have ek : (sortI (B.map (·.1))).map (fun x => pairP (x, ((B.find? fun q => decide (q.1 = x)).map (·.2)).getD 0)) = (sortII B).map pairP := by
    rw [← sort_keys I.bl, List.map_map]
    rfl
  rw [ek] at e1
  have e2 : EvD (bnd (asPk (frz (lcF (bnd (frz (bnd (asPk (ixV 1 (cst (.p (.str "sizes"))))) sortDF)) walkR) [3] (nameG 3) yesT (bnd (consA (rd 3) (consA (bnd2 (ixV 1 (cst (.p (.str "sizes")))) (rd 3) ixD) nilA)) mkTup)))) (fnK tupP)) ⟨[.v (.loc 1), .v (.loc 9), .un, .un, .un], ST dr pol u h l B G own⟩ (.p (.tup ((sortII B).map pairP))) := ed_fn (ep_as (ed_frz e1)) rfl
  refine wp_seq (wp_set e2 ?_)
  dsimp only
  obtain ⟨sb, eb, stb⟩ := blocks_ok (m := dr) (pol := pol) (u := u) (h := h) (l := l) (B := B) (G := G) (R := tl7 pol u own B h l)
  obtain ⟨sp, ep, stp⟩ := pieces_ok (m := dr) (pol := pol) (u := u) (h := h) (l := l) (B := B) (G := G) (R := tl7 pol u own B h l)
  obtain ⟨st, et, stt⟩ := top_ok (m := dr) (pol := pol) (u := u) (h := h) (l := l) (B := B) (G := G) (R := tl7 pol u own B h l)
  obtain ⟨_, sr, er, F, rfl, hR, _, str⟩ := runs_ok (p := pre dr pol u h l B G) (own := own) (B := B) (t := h) (l := l) I.h1 (by omega)
  have hF : F = G := ok_uniq hR.1 I.ok fun w => by rw [hR.2 w, I.gi w]
  subst hF
  generalize hT : (D.p (.tup ((sortII B).map pairP))) = T
  have t1 : EvB (bnd2 (methE "Heap" "blocks" m_Heap_blocks (rd 0) nilA) (rd 2) neD) ⟨[.v (.loc 1), .v (.loc 9), .v T, .un, .un], ST dr pol u h l B F own⟩ false := by
    subst hT
    exact eb_neR (em_ok (ed_rd rfl) rfl ea_nil eb stb) (ed_rd rfl) (deep_tp _)
  have hr : EvD (bnd (asPk (callS m__law_runs (consA (rd 1) nilA))) (fnK tupP)) ⟨[.v (.loc 1), .v (.loc 9), .v T, .un, .un], ST dr pol u h l B F own⟩ (.p (.tup (F.map pairP))) := by
    have := callS_ok (m := m__law_runs) (fa := consA (rd 1) nilA) (s := ⟨[.v (.loc 1), .v (.loc 9), .v T, .un, .un], ST dr pol u h l B F own⟩) (s1 := ⟨[.v (.loc 1), .v (.loc 9), .v T, .un, .un], ST dr pol u h l B F own⟩) (ea_cons (ed_rd (n := 1) (d := .loc 9) rfl) ea_nil) er
    rw [str] at this
    exact ed_fn (ep_as this) rfl
  have t2 : EvB (bnd2 (methE "Heap" "pieces" m_Heap_pieces (rd 0) nilA) (bnd (asPk (callS m__law_runs (consA (rd 1) nilA))) (fnK tupP)) neD) ⟨[.v (.loc 1), .v (.loc 9), .v T, .un, .un], ST dr pol u h l B F own⟩ false := eb_neR (em_ok (ed_rd rfl) rfl ea_nil ep stp) hr (deep_tp _)
  have t3 : EvB (bnd2 (methE "Heap" "top" m_Heap_top (rd 0) nilA) (ixV 1 (cst (.p (.str "top")))) neD) ⟨[.v (.loc 1), .v (.loc 9), .v T, .un, .un], ST dr pol u h l B F own⟩ false := eb_neR (y := .int h) (em_ok (ed_rd rfl) rfl ea_nil et stt) (ed_ixV (d := .loc 9) rfl ed_cst rfl) (Nat.zero_le _)
  refine wp_seq (wp_if (et_or (et_b t1) fun _ => et_or (et_b t2) fun _ => et_b t3) (fun b => by cases b) fun _ => wp_skip ?_)
  dsimp only
  have hl2 : (sortII B).length ≤ sizeLine := by
    have := (sortB_perm SrtO.lexB B).length_eq
    show (sortB SrtO.lexB B).length ≤ _
    omega
  have e3 := lcF_map (own := [3, 4]) (t := tupG 2 (namesG [3, 4])) (fe := bnd2 (methE "Heap" "size" m_Heap_size (rd 0) (consA (rd 3) nilA)) (rd 4) eqD) (toD := pD) (xs := sortII B) (fi := bnd (rd 2) walkR) (s := ⟨[.v (.loc 1), .v (.loc 9), .v T, .un, .un], ST dr pol u h l B F own⟩) (s1 := ⟨[.v (.loc 1), .v (.loc 9), .v T, .un, .un], ST dr pol u h l B F own⟩) (fun _ => P.bl true)
    (by
      have := ei_walk (f := rd 2) (s := ⟨[.v (.loc 1), .v (.loc 9), .v T, .un, .un], ST dr pol u h l B F own⟩) (d := T) (ys := (sortII B).map pairP) (ed_rd rfl) (by rw [← hT]; rfl)
      rw [← pD_map] at this
      exact this)
    (fun q hq => by
      have hqB : q ∈ B := (sortB_perm SrtO.lexB B).mem_iff.mp hq
      obtain ⟨ss, es, sts⟩ := sized_ok (m := dr) (pol := pol) (u := u) (h := h) (l := l) (G := F) (R := tl7 pol u own B h l) I.bl hqB
      refine ⟨⟨[.v (.loc 1), .v (.loc 9), .v T, .v (.p (.int q.1)), .v (.p (.int q.2))], ST dr pol u h l B F own⟩, rfl, rfl, ?_⟩
      exact eb_eqR (y := .int q.2) (em_ok (ds := [.p (.int q.1)]) (ed_rd rfl) rfl (ea_cons (ed_rd rfl) ea_nil) es sts) (ed_rd rfl) (Nat.zero_le _)) hl2
  exact wp_ret (d := .p (.bl true)) (ed_fn (ep_as (ed_frz e3)) (all_true (sortII B))) ⟨rfl, rfl⟩
end
end K85
namespace K85
open PySem PySem.Spec PyProof.Rows L2 Dz
section
variable {dr : MO} {pol : Str} {u h l z a : Int} {k n : Nat} {B G : List Pr} {own : List (L2.Key × D)} {sl : List Sl} {s s1 s2 : Sta} {go g f : Ev} {t v : Sta → Res Bool} {d e x y : D} {Q : Po}
theorem orT_ff (h1 : t s = .ok false s1) (h2 : v s1 = .ok false s2) : orT t v s = .ok false s2 := by unfold orT; rw [bnd_ok h1]; exact h2
theorem notT_S (h1 : t s = .ok true s1) : notT t s = .ok false s1 := by unfold notT; rw [bnd_ok h1]; rfl
theorem truE (h1 : f s = .ok (.p (.bl true)) s1) : bnd (asPk f) truPR s = .ok true s1 := by
  rw [bnd_ok (show asPk f s = .ok (.d (.p (.bl true))) s1 from by unfold asPk; rw [bnd_ok h1])]
  rfl
/-- the slots of the law -/
def lL (F A : D) (c d : Sl) : List Sl := [.v F, .v (.loc 0), .v A, .v (.loc 1), .v (.loc 4), .v (.loc 9), c, d]
theorem wout_head {q : Pr} {B : List Pr} {top : Int} (hb : Blk (q :: B) top) : wout (q :: B) q.1 = B := by
  unfold wout
  rw [List.filter_cons_of_neg (by simp), List.filter_eq_self]
  intro r hr
  have := List.rel_of_pairwise_cons (blk_ne hb) hr
  simpa using fun e => this e.symm
theorem init_J (hu : HU u) : J pol u 0 0 1 1 [] [] [] := by
  refine ⟨hu, Int.le_refl _, by decide, ⟨(fun _ h => nomatch h), .nil⟩, (fun _ h => nomatch h), Nat.le_refl _, fun w => ⟨(fun z => by cases z), (fun z => (in_nil z).elim)⟩, Nat.le_refl _, trivial, fun w => ⟨(fun z => (in_nil z).elim), (fun z => by omega)⟩, Nat.le_refl _, fun _ => .inl rfl⟩
theorem make1 {A : D} {c d e f2 g2 : Sl} {F : D} (hA : A = .p (alP pol u)) : makeE "Heap" m_Heap___init__ (consA (rd 2) nilA) ⟨[.v F, .v (.loc 0), .v A, c, d, e, f2, g2], some [dr]⟩ = .ok (.loc 1) ⟨[.v F, .v (.loc 0), .v A, c, d, e, f2, g2], some [dr, hI pol u 1 1, .dic [], .lst []]⟩ := by
  subst hA
  rfl
theorem make2 {A : D} {c d e f2 g2 : Sl} {F : D} (hA : A = .p (alP pol u)) : makeE "Heap" m_Heap___init__ (consA (rd 2) nilA) ⟨[.v F, .v (.loc 0), .v A, c, d, e, f2, g2], some [dr, hI pol u 1 1, .dic [], .lst []]⟩ = .ok (.loc 4) ⟨[.v F, .v (.loc 0), .v A, c, d, e, f2, g2], some [dr, hI pol u 1 1, .dic [], .lst [], oI pol u, .dic [], .lst []]⟩ := by
  subst hA
  rfl
theorem disp3 {sl : List Sl} : dispS ((.inr "owner", (alloc (.dic []))) :: ((.inr "sizes", (alloc (.dic []))) :: ((.inr "top", (cst (.p (.int 1)))) :: ((.inr "last", (cst (.p (.int 1)))) :: [])))) ⟨sl, some [dr, hI pol u 1 1, .dic [], .lst [], oI pol u, .dic [], .lst []]⟩ = .ok (.loc 9) ⟨sl, ST dr pol u 1 1 [] [] []⟩ := rfl
theorem other_ok {F A : D} {c d : Sl} : andE (bnd2 (methE "Heap" "top" m_Heap_top (rd 4) nilA) (cst (.p (.int 1))) eqD) (andE (bnd2 (methE "Heap" "pieces" m_Heap_pieces (rd 4) nilA) (bnd nilA mkTup) eqD) (bnd2 (methE "Heap" "give" m_Heap_give (rd 4) (consA (cst (.p (.int 1))) nilA)) (cst (.p (.bl false))) isD)) ⟨lL F A c d, ST dr pol u h l B G own⟩ = .ok (.p (.bl true)) ⟨lL F A c d, ST dr pol u h l B G own⟩ := rfl
theorem law_true (ns : List Int) (h63 : ns.length ≤ 63) : ∃ s, m_law [.fz (ns.map .int)] (some []) = .ok (.p (.bl true)) s := by
  suffices h : ∃ d s, m_law [.fz (ns.map .int)] (some []) = .ok d s ∧ d = .p (.bl true) by
    obtain ⟨d, s, e, rfl⟩ := h; exact ⟨s, e⟩
  refine run_wp (R := fun d _ => d = .p (.bl true)) rfl ?_
  show Wp (g_law ⟨[.v (.fz (ns.map .int)), .un, .un, .un, .un, .un, .un, .un], some []⟩) _
  unfold g_law
  obtain ⟨_, s0, e0, rfl, dr0, es0, hd0⟩ := reader_ok ns h63
  refine wp_seq (wp_setB (d := .loc 0) (s1 := ⟨[.v (.fz (ns.map .int)), .un, .un, .un, .un, .un, .un, .un], s0.st⟩) (callS_ok (s1 := ⟨_, some []⟩) (ea_cons (ed_rd rfl) ea_nil) e0) ?_)
  rw [es0]
  dsimp only
  generalize (D.fz (ns.map .int)) = F
  -- the allocator
  obtain ⟨v1, dr1, e1, p1, hd1⟩ := next_at (R := []) (i := 1) (n := 4) (g := cst (.p (.int 4))) (sl := [.v F, .v (.loc 0), .un, .un, .un, .un, .un, .un]) rfl (fun _ => ed_cst) (by decide) hd0
  obtain ⟨v2, dr2, e2, p2, hd2⟩ := next_at (R := []) (i := 1) (n := 4) (g := cst (.p (.int 4))) (sl := [.v F, .v (.loc 0), .un, .un, .un, .un, .un, .un]) rfl (fun _ => ed_cst) (by decide) hd1
  obtain ⟨pol, u, hu, eA⟩ : ∃ pol u, HU u ∧ bnd (consA (bnd2 (frz (bnd (consA (cst (.p (.str "first"))) (consA (cst (.p (.str "best"))) (consA (cst (.p (.str "next"))) (consA (cst (.p (.str "bump"))) nilA)))) mkLin)) (callS m__law_next (consA (rd 1) (consA (cst (.p (.int 4))) nilA))) ixD) (consA (bnd2 (cst (.p (.int 1))) (callS m__law_next (consA (rd 1) (consA (cst (.p (.int 4))) nilA))) shlD) nilA)) mkTup ⟨[.v F, .v (.loc 0), .un, .un, .un, .un, .un, .un], some [dr0]⟩ = .ok (.p (alP pol u)) ⟨[.v F, .v (.loc 0), .un, .un, .un, .un, .un, .un], some [dr2]⟩ := by
    obtain ⟨pol, hpol⟩ : ∃ pol, bnd2 (frz (bnd (consA (cst (.p (.str "first"))) (consA (cst (.p (.str "best"))) (consA (cst (.p (.str "next"))) (consA (cst (.p (.str "bump"))) nilA)))) mkLin)) (callS m__law_next (consA (rd 1) (consA (cst (.p (.int 4))) nilA))) ixD ⟨[.v F, .v (.loc 0), .un, .un, .un, .un, .un, .un], some [dr0]⟩ = .ok (.p (.str pol)) ⟨[.v F, .v (.loc 0), .un, .un, .un, .un, .un, .un], some [dr1]⟩ := by
      have eL : frz (bnd (consA (cst (.p (.str "first"))) (consA (cst (.p (.str "best"))) (consA (cst (.p (.str "next"))) (consA (cst (.p (.str "bump"))) nilA)))) mkLin) ⟨[.v F, .v (.loc 0), .un, .un, .un, .un, .un, .un], some [dr0]⟩ = .ok (.p (.lst [.str "first", .str "best", .str "next", .str "bump"])) ⟨[.v F, .v (.loc 0), .un, .un, .un, .un, .un, .un], some [dr0]⟩ := rfl
      rw [bnd2_ok eL e1]
      have h4 : v1 = 0 ∨ v1 = 1 ∨ v1 = 2 ∨ v1 = 3 := by omega
      unfold ixD
      rcases h4 with rfl | rfl | rfl | rfl
      · exact ⟨"first", by rw [ix_lst (n := 0) (by simp)]; rfl⟩
      · exact ⟨"best", by rw [ix_lst (n := 1) (by simp)]; rfl⟩
      · exact ⟨"next", by rw [ix_lst (n := 2) (by simp)]; rfl⟩
      · exact ⟨"bump", by rw [ix_lst (n := 3) (by simp)]; rfl⟩
    obtain ⟨u, hu, hue⟩ : ∃ u, HU u ∧ bnd2 (cst (.p (.int 1))) (callS m__law_next (consA (rd 1) (consA (cst (.p (.int 4))) nilA))) shlD ⟨[.v F, .v (.loc 0), .un, .un, .un, .un, .un, .un], some [dr1]⟩ = .ok (.p (.int u)) ⟨[.v F, .v (.loc 0), .un, .un, .un, .un, .un, .un], some [dr2]⟩ := by
      have eL : cst (.p (.int 1)) ⟨[.v F, .v (.loc 0), .un, .un, .un, .un, .un, .un], some [dr1]⟩ = .ok (.p (.int 1)) ⟨[.v F, .v (.loc 0), .un, .un, .un, .un, .un, .un], some [dr1]⟩ := rfl
      rw [bnd2_ok eL e2]
      have h4 : v2 = 0 ∨ v2 = 1 ∨ v2 = 2 ∨ v2 = 3 := by omega
      rcases h4 with rfl | rfl | rfl | rfl
      · exact ⟨1, .inl rfl, rfl⟩
      · exact ⟨2, .inr (.inl rfl), rfl⟩
      · exact ⟨4, .inr (.inr (.inl rfl)), rfl⟩
      · exact ⟨8, .inr (.inr (.inr rfl)), rfl⟩
    exact ⟨pol, u, hu, by rw [bnd_ok (consA_ok hpol (consA_ok hue ea_nil))]; rfl⟩
  refine wp_seq (wp_setB eA ?_)
  dsimp only
  generalize hA : (D.p (alP pol u)) = A
  refine wp_seq (wp_setB (make1 hA.symm) ?_)
  refine wp_seq (wp_setB (make2 hA.symm) ?_)
  refine wp_seq (wp_setB disp3 ?_)
  show Wp (seqS _ _ ⟨lL F A .un .un, ST dr2 pol u 1 1 [] [] []⟩) _
  -- the deeds
  obtain ⟨v3, dr3, e3, p3, hd3⟩ := next_ST (dr := dr2) (pol := pol) (u := u) (h := 1) (l := 1) (B := []) (G := []) (own := []) (i := 1) (m := 66) (g := cst (.p (.int 66))) (sl := lL F A .un .un) rfl (fun _ => ed_cst) (by decide) hd2
  have eN : consA (bnd2 (cst (.p (.int 5))) (callS m__law_next (consA (rd 1) (consA (cst (.p (.int 66))) nilA))) addD) nilA ⟨lL F A .un .un, ST dr2 pol u 1 1 [] [] []⟩ = .ok [.p (.int ((5 + v3 : Nat) : Int))] ⟨lL F A .un .un, ST dr3 pol u 1 1 [] [] []⟩ := by
    refine consA_ok (s1 := ⟨lL F A .un .un, ST dr3 pol u 1 1 [] [] []⟩) ?_ ea_nil
    have eL : cst (.p (.int 5)) ⟨lL F A .un .un, ST dr2 pol u 1 1 [] [] []⟩ = .ok (.p (.int 5)) ⟨lL F A .un .un, ST dr2 pol u 1 1 [] [] []⟩ := rfl
    rw [bnd2_ok eL e3]
    rfl
  refine wp_seq (wp_rng (j := 5 + v3) (fun n s => ∃ (dr : MO) (h l : Int) (B G : List Pr) (own : List (L2.Key × D)) (c : Sl), s = ⟨lL F A c .un, ST dr pol u h l B G own⟩ ∧ J pol u n n h l B G own ∧ IsDr dr) eN (by omega) ⟨dr3, 1, 1, [], [], [], .un, rfl, init_J hu, hd3⟩ (fun n s hn hs => ?_) fun s hs => ?_)
  · obtain ⟨dr, h, l, B, G, own, c, rfl, I, hd⟩ := hs
    show Wp (ifS _ _ _ ⟨lL F A (.v (.p (.int n))) .un, ST dr pol u h l B G own⟩) _
    obtain ⟨_, s1, t1, rfl, dr', h', l', B', G', own', est, I', hd'⟩ := deed_ok I (by omega) (by omega) hd
    rw [hA] at t1
    obtain ⟨_, s2, t2, rfl, est2⟩ := told_ok (dr := dr') I' (by omega) (by omega)
    have q1 := callS_ok (m := m__law_deed) (fa := consA (rd 1) (consA (rd 3) (consA (rd 5) (consA (rd 2) nilA)))) (ds := [.loc 0, .loc 1, .loc 9, A]) (s := ⟨lL F A (.v (.p (.int n))) .un, ST dr pol u h l B G own⟩) (s1 := ⟨lL F A (.v (.p (.int n))) .un, ST dr pol u h l B G own⟩) (ea_cons (ed_rd rfl) (ea_cons (ed_rd rfl) (ea_cons (ed_rd rfl) (ea_cons (ed_rd rfl) ea_nil)))) t1
    rw [est] at q1
    have q2 := callS_ok (m := m__law_as_told) (fa := consA (rd 3) (consA (rd 5) nilA)) (ds := [.loc 1, .loc 9]) (s := ⟨lL F A (.v (.p (.int n))) .un, ST dr' pol u h' l' B' G' own'⟩) (s1 := ⟨lL F A (.v (.p (.int n))) .un, ST dr' pol u h' l' B' G' own'⟩) (ea_cons (ed_rd rfl) (ea_cons (ed_rd rfl) ea_nil)) t2
    rw [est2] at q2
    refine wp_if (orT_ff (notT_S (truE q1)) (notT_S (truE q2))) (fun b => by cases b) fun _ => wp_skip ⟨dr', h', l', B', G', own', _, rfl, I', hd'⟩
  · obtain ⟨dr, h, l, B, G, own, c, rfl, I, hd⟩ := hs
    dsimp only
    have hlist : EvD (frz (bnd (asPk (ixV 5 (cst (.p (.str "sizes"))))) listDF)) ⟨lL F A c .un, ST dr pol u h l B G own⟩ (.p (.lst (B.map fun q => P.int q.1))) := by
      refine ed_frz (m := .lst (B.map fun q => P.int q.1)) ?_
      rw [bnd_ok (ep_as (ed_ixV (d := .loc 9) (e := .p (.str "sizes")) (x := .loc 8) rfl ed_cst rfl))]
      show Res.ok (Lin.lst ((B.map kvD).map fun kv => keyP' kv.1)) _ = _
      rw [List.map_map]
      rfl
    have hwalk := ei_walk (ys := B.map fun q => P.int q.1) hlist rfl
    rw [List.map_map] at hwalk
    refine wp_seq (wp_forR (toD := D.p ∘ fun q : Pr => P.int q.1) (xs := B) (fun rest s => ∃ (n' : Nat) (h : Int) (G : List Pr) (own : List (L2.Key × D)) (c2 : Sl), s = ⟨lL F A c c2, ST dr pol u h l rest G own⟩ ∧ J pol u (5 + v3) n' h l rest G own ∧ n' + rest.length ≤ 200) hwalk ⟨5 + v3, h, G, own, .un, rfl, I, by have := I.bn; omega⟩ (fun q rest s hs => ?_) fun s hs => ?_)
    · obtain ⟨n', h, G, own, c2, rfl, I, hn⟩ := hs
      rw [List.length_cons] at hn
      refine ⟨⟨lL F A c (.v (.p (.int q.1))), ST dr pol u h l (q :: rest) G own⟩, rfl, ?_⟩
      obtain ⟨s1, s2, t1, t2, h', G', own', est, I'⟩ := give_both (dr := dr) I (by omega) (by omega) (List.mem_cons_self ..)
      rw [hA] at t2
      rw [wout_head I.bl] at est I'
      have m1 := meth_ok (go := rd 3) (sl := lL F A c (.v (.p (.int q.1)))) (m := dr) (pol := pol) (u := u) (h := h) (l := l) (B := q :: rest) (G := G) (R := tl7 pol u own (q :: rest) h l) (mn := "give") (mo := m_Heap_give) (fa := consA (rd 7) nilA) (ds := [.p (.int q.1)]) (ed_rd rfl) rfl (ea_cons (ed_rd rfl) ea_nil) t1
      have m2 := callS_ok (m := m__law_give) (fa := consA (rd 5) (consA (rd 2) (consA (rd 7) nilA))) (ds := [.loc 9, A, .p (.int q.1)]) (s := ⟨lL F A c (.v (.p (.int q.1))), s1.st⟩) (s1 := ⟨lL F A c (.v (.p (.int q.1))), s1.st⟩) (ea_cons (ed_rd rfl) (ea_cons (ed_rd rfl) (ea_cons (ed_rd rfl) ea_nil))) t2
      rw [est] at m2
      have tt : bnd (bnd2 (methE "Heap" "give" m_Heap_give (rd 3) (consA (rd 7) nilA)) (cst (.p (.bl true))) isntD) isBl ⟨lL F A c (.v (.p (.int q.1))), ST dr pol u h l (q :: rest) G own⟩ = .ok false ⟨lL F A c (.v (.p (.int q.1))), s1.st⟩ := by
        have m1' : methE "Heap" "give" m_Heap_give (rd 3) (consA (rd 7) nilA) ⟨lL F A c (.v (.p (.int q.1))), ST dr pol u h l (q :: rest) G own⟩ = .ok (.p (.bl true)) ⟨lL F A c (.v (.p (.int q.1))), s1.st⟩ := m1
        rw [bnd_ok (show bnd2 _ (cst (.p (.bl true))) isntD _ = .ok (.p (.bl false)) ⟨lL F A c (.v (.p (.int q.1))), s1.st⟩ from by
          have eL : cst (.p (.bl true)) ⟨lL F A c (.v (.p (.int q.1))), s1.st⟩ = .ok (.p (.bl true)) ⟨lL F A c (.v (.p (.int q.1))), s1.st⟩ := rfl
          rw [bnd2_ok m1' eL]; rfl)]
        rfl
      refine wp_if (orT_ff tt (notT_S (truE m2))) (fun b => by cases b) fun _ => wp_skip ⟨n' + 1, h', G', own', _, rfl, I', by omega⟩
    · obtain ⟨n', h, G, own, c2, rfl, I, hn⟩ := hs
      obtain ⟨sb, eb, stb⟩ := blocks_ok (m := dr) (pol := pol) (u := u) (h := h) (l := l) (B := []) (G := G) (R := tl7 pol u own [] h l)
      obtain ⟨st, et, stt⟩ := top_ok (m := dr) (pol := pol) (u := u) (h := h) (l := l) (B := []) (G := G) (R := tl7 pol u own [] h l)
      have t1 : EvB (bnd2 (methE "Heap" "blocks" m_Heap_blocks (rd 3) nilA) (bnd nilA mkTup) neD) ⟨lL F A c c2, ST dr pol u h l [] G own⟩ false := eb_neR (y := .tup []) (em_ok (ed_rd rfl) rfl ea_nil eb stb) rfl (by decide)
      have t2 : EvT (andT (bnd (bnd2 (ixV 2 (cst (.p (.int 0)))) (cst (.p (.str "bump"))) neD) isBl) (bnd (bnd2 (methE "Heap" "top" m_Heap_top (rd 3) nilA) (cst (.p (.int 1))) neD) isBl)) ⟨lL F A c c2, ST dr pol u h l [] G own⟩ false := by
        have a1 : EvT (bnd (bnd2 (ixV 2 (cst (.p (.int 0)))) (cst (.p (.str "bump"))) neD) isBl) ⟨lL F A c c2, ST dr pol u h l [] G own⟩ (!decide (pol = "bump")) := by
          subst hA
          exact et_b (eb_nestr (pol := pol) (ed_ixV (d := .p (alP pol u)) rfl ed_cst ix_t0))
        by_cases hb : pol = "bump"
        · have := et_and (c := false) a1 (u := bnd (bnd2 (methE "Heap" "top" m_Heap_top (rd 3) nilA) (cst (.p (.int 1))) neD) isBl) (fun z => by rw [decide_eq_true hb] at z; cases z)
          rw [Bool.and_false] at this
          exact this
        · have h1 : h = 1 := by
            rcases I.low hb with x | x
            · exact x
            · exact (in_nil ((I.ow _).mp x)).elim
          subst h1
          have a2 : EvT (bnd (bnd2 (methE "Heap" "top" m_Heap_top (rd 3) nilA) (cst (.p (.int 1))) neD) isBl) ⟨lL F A c c2, ST dr pol u 1 l [] G own⟩ false := et_b (eb_neR (y := .int 1) (em_ok (ed_rd rfl) rfl ea_nil et stt) ed_cst (by decide))
          have := et_and a1 (fun _ => a2)
          rw [Bool.and_false] at this
          exact this
      refine wp_seq (wp_if (et_or (et_b t1) fun _ => t2) (fun b => by cases b) fun _ => wp_skip ?_)
      dsimp only
      exact wp_retB other_ok rfl
end
end K85
namespace K85
open PySem PySem.Spec PyProof.Rows L2 Dz
theorem all_mk {l : PySem.W.OpenLaw} {w : World} {K : PySem.W.Frag} {h : Heap} {mg : Str → Option Value} {fa : Addr} (X : K.In h) (G : h.Ns mainGlobals mg) (hfa : mg "law" = some (.ref fa))
    {g1 : Addr} {oc1 kV1 dc1 pm1 cd1 ct1 : Value} {od1 an1 : Option Addr} {sl1 : Array (Option Value)} (d1 : DefK K "_law_draws" s__law_draws g1 oc1 kV1 dc1 pm1 cd1 ct1 od1 an1 sl1)
    {g2 : Addr} {oc2 kV2 dc2 pm2 cd2 ct2 : Value} {od2 an2 : Option Addr} {sl2 : Array (Option Value)} (d2 : DefK K "_law_reader" s__law_reader g2 oc2 kV2 dc2 pm2 cd2 ct2 od2 an2 sl2)
    {g3 : Addr} {oc3 kV3 dc3 pm3 cd3 ct3 : Value} {od3 an3 : Option Addr} {sl3 : Array (Option Value)} (d3 : DefK K "_law_next" s__law_next g3 oc3 kV3 dc3 pm3 cd3 ct3 od3 an3 sl3)
    {g4 : Addr} {oc4 kV4 dc4 pm4 cd4 ct4 : Value} {od4 an4 : Option Addr} {sl4 : Array (Option Value)} (d4 : DefK K "_law_runs" s__law_runs g4 oc4 kV4 dc4 pm4 cd4 ct4 od4 an4 sl4)
    {g5 : Addr} {oc5 kV5 dc5 pm5 cd5 ct5 : Value} {od5 an5 : Option Addr} {sl5 : Array (Option Value)} (d5 : DefK K "_law_fits" s__law_fits g5 oc5 kV5 dc5 pm5 cd5 ct5 od5 an5 sl5)
    {g6 : Addr} {oc6 kV6 dc6 pm6 cd6 ct6 : Value} {od6 an6 : Option Addr} {sl6 : Array (Option Value)} (d6 : DefK K "_law_chosen" s__law_chosen g6 oc6 kV6 dc6 pm6 cd6 ct6 od6 an6 sl6)
    {g7 : Addr} {oc7 kV7 dc7 pm7 cd7 ct7 : Value} {od7 an7 : Option Addr} {sl7 : Array (Option Value)} (d7 : DefK K "_law_take" s__law_take g7 oc7 kV7 dc7 pm7 cd7 ct7 od7 an7 sl7)
    {g8 : Addr} {oc8 kV8 dc8 pm8 cd8 ct8 : Value} {od8 an8 : Option Addr} {sl8 : Array (Option Value)} (d8 : DefK K "_law_give" s__law_give g8 oc8 kV8 dc8 pm8 cd8 ct8 od8 an8 sl8)
    {g9 : Addr} {oc9 kV9 dc9 pm9 cd9 ct9 : Value} {od9 an9 : Option Addr} {sl9 : Array (Option Value)} (d9 : DefK K "_law_as_told" s__law_as_told g9 oc9 kV9 dc9 pm9 cd9 ct9 od9 an9 sl9)
    {g10 : Addr} {oc10 kV10 dc10 pm10 cd10 ct10 : Value} {od10 an10 : Option Addr} {sl10 : Array (Option Value)} (d10 : DefK K "_law_deed" s__law_deed g10 oc10 kV10 dc10 pm10 cd10 ct10 od10 an10 sl10)
    {g11 : Addr} {oc11 kV11 dc11 pm11 cd11 ct11 : Value} {od11 an11 : Option Addr} {sl11 : Array (Option Value)} (d11 : DefK K "law" s_law g11 oc11 kV11 dc11 pm11 cd11 ct11 od11 an11 sl11)
    {C_Heap : Addr} (x_Heap : ClsK K "Heap" C_Heap)
    (n_Heap_policy : PySem.W.findIn K (.ref C_Heap) "policy" = some none)
    (n_Heap_unit : PySem.W.findIn K (.ref C_Heap) "unit" = some none)
    (n_Heap_given : PySem.W.findIn K (.ref C_Heap) "given" = some none)
    (n_Heap_gaps : PySem.W.findIn K (.ref C_Heap) "gaps" = some none)
    (n_Heap_height : PySem.W.findIn K (.ref C_Heap) "height" = some none)
    (n_Heap_behind_last : PySem.W.findIn K (.ref C_Heap) "behind_last" = some none)
    {gm1 : Addr} {ocm1 kVm1 dcm1 pmm1 cdm1 ctm1 : Value} {odm1 anm1 : Option Addr} {slm1 : Array (Option Value)} (dm1 : MethK K C_Heap "__init__" "Heap.__init__" s_Heap___init__ gm1 ocm1 kVm1 dcm1 pmm1 cdm1 ctm1 odm1 anm1 slm1)
    {gm2 : Addr} {ocm2 kVm2 dcm2 pmm2 cdm2 ctm2 : Value} {odm2 anm2 : Option Addr} {slm2 : Array (Option Value)} (dm2 : MethK K C_Heap "size_for" "Heap.size_for" s_Heap_size_for gm2 ocm2 kVm2 dcm2 pmm2 cdm2 ctm2 odm2 anm2 slm2)
    {gm3 : Addr} {ocm3 kVm3 dcm3 pmm3 cdm3 ctm3 : Value} {odm3 anm3 : Option Addr} {slm3 : Array (Option Value)} (dm3 : MethK K C_Heap "smallest_gap" "Heap.smallest_gap" s_Heap_smallest_gap gm3 ocm3 kVm3 dcm3 pmm3 cdm3 ctm3 odm3 anm3 slm3)
    {gm4 : Addr} {ocm4 kVm4 dcm4 pmm4 cdm4 ctm4 : Value} {odm4 anm4 : Option Addr} {slm4 : Array (Option Value)} (dm4 : MethK K C_Heap "gap_for" "Heap.gap_for" s_Heap_gap_for gm4 ocm4 kVm4 dcm4 pmm4 cdm4 ctm4 odm4 anm4 slm4)
    {gm5 : Addr} {ocm5 kVm5 dcm5 pmm5 cdm5 ctm5 : Value} {odm5 anm5 : Option Addr} {slm5 : Array (Option Value)} (dm5 : MethK K C_Heap "cut" "Heap.cut" s_Heap_cut gm5 ocm5 kVm5 dcm5 pmm5 cdm5 ctm5 odm5 anm5 slm5)
    {gm6 : Addr} {ocm6 kVm6 dcm6 pmm6 cdm6 ctm6 : Value} {odm6 anm6 : Option Addr} {slm6 : Array (Option Value)} (dm6 : MethK K C_Heap "take" "Heap.take" s_Heap_take gm6 ocm6 kVm6 dcm6 pmm6 cdm6 ctm6 odm6 anm6 slm6)
    {gm7 : Addr} {ocm7 kVm7 dcm7 pmm7 cdm7 ctm7 : Value} {odm7 anm7 : Option Addr} {slm7 : Array (Option Value)} (dm7 : MethK K C_Heap "gap_behind" "Heap.gap_behind" s_Heap_gap_behind gm7 ocm7 kVm7 dcm7 pmm7 cdm7 ctm7 odm7 anm7 slm7)
    {gm8 : Addr} {ocm8 kVm8 dcm8 pmm8 cdm8 ctm8 : Value} {odm8 anm8 : Option Addr} {slm8 : Array (Option Value)} (dm8 : MethK K C_Heap "unite" "Heap.unite" s_Heap_unite gm8 ocm8 kVm8 dcm8 pmm8 cdm8 ctm8 odm8 anm8 slm8)
    {gm9 : Addr} {ocm9 kVm9 dcm9 pmm9 cdm9 ctm9 : Value} {odm9 anm9 : Option Addr} {slm9 : Array (Option Value)} (dm9 : MethK K C_Heap "lower_top" "Heap.lower_top" s_Heap_lower_top gm9 ocm9 kVm9 dcm9 pmm9 cdm9 ctm9 odm9 anm9 slm9)
    {gm10 : Addr} {ocm10 kVm10 dcm10 pmm10 cdm10 ctm10 : Value} {odm10 anm10 : Option Addr} {slm10 : Array (Option Value)} (dm10 : MethK K C_Heap "give" "Heap.give" s_Heap_give gm10 ocm10 kVm10 dcm10 pmm10 cdm10 ctm10 odm10 anm10 slm10)
    {gm11 : Addr} {ocm11 kVm11 dcm11 pmm11 cdm11 ctm11 : Value} {odm11 anm11 : Option Addr} {slm11 : Array (Option Value)} (dm11 : MethK K C_Heap "blocks" "Heap.blocks" s_Heap_blocks gm11 ocm11 kVm11 dcm11 pmm11 cdm11 ctm11 odm11 anm11 slm11)
    {gm12 : Addr} {ocm12 kVm12 dcm12 pmm12 cdm12 ctm12 : Value} {odm12 anm12 : Option Addr} {slm12 : Array (Option Value)} (dm12 : MethK K C_Heap "pieces" "Heap.pieces" s_Heap_pieces gm12 ocm12 kVm12 dcm12 pmm12 cdm12 ctm12 odm12 anm12 slm12)
    {gm13 : Addr} {ocm13 kVm13 dcm13 pmm13 cdm13 ctm13 : Value} {odm13 anm13 : Option Addr} {slm13 : Array (Option Value)} (dm13 : MethK K C_Heap "top" "Heap.top" s_Heap_top gm13 ocm13 kVm13 dcm13 pmm13 cdm13 ctm13 odm13 anm13 slm13)
    {gm14 : Addr} {ocm14 kVm14 dcm14 pmm14 cdm14 ctm14 : Value} {odm14 anm14 : Option Addr} {slm14 : Array (Option Value)} (dm14 : MethK K C_Heap "size" "Heap.size" s_Heap_size gm14 ocm14 kVm14 dcm14 pmm14 cdm14 ctm14 odm14 anm14 slm14)
    {t_FIRST_ADDRESS : Tok} (a_FIRST_ADDRESS : PySem.W.nsIn K mainGlobals "FIRST_ADDRESS" = some (some (.int 1 t_FIRST_ADDRESS)))
    {t_NO_PIECE : Tok} (a_NO_PIECE : PySem.W.nsIn K mainGlobals "NO_PIECE" = some (some (.int (-1) t_NO_PIECE)))
    (y_abs : PySem.W.nsIn K mainGlobals "abs" = some none)
    (y_all : PySem.W.nsIn K mainGlobals "all" = some none)
    (y_int : PySem.W.nsIn K mainGlobals "int" = some none)
    (y_len : PySem.W.nsIn K mainGlobals "len" = some none)
    (y_list : PySem.W.nsIn K mainGlobals "list" = some none)
    (y_max : PySem.W.nsIn K mainGlobals "max" = some none)
    (y_min : PySem.W.nsIn K mainGlobals "min" = some none)
    (y_range : PySem.W.nsIn K mainGlobals "range" = some none)
    (y_sorted : PySem.W.nsIn K mainGlobals "sorted" = some none)
    (y_tuple : PySem.W.nsIn K mainGlobals "tuple" = some none) :
    ∃ fd : FuncData, (∀ (s : Shared) (v : Value), BindsTo s fd ⟨[v], []⟩ [("script", v)]) ∧ ∀ base : Heap, K.In base → base.Ns mainGlobals mg → FnOk l.prog w K mg base (L2.CX l.prog w) 6 fa fd ["script"] (spLaw K) := by
  have e := hfa.symm.trans (PySem.W.mg_of X G d11.a)
  cases e
  have w__law_draws := d1.here X G (ps := ["script"]) fun _ _ _ _ _ _ us hl => match us, hl with | [_], _ => rfl
  have w__law_reader := d2.here X G (ps := ["script"]) fun _ _ _ _ _ _ us hl => match us, hl with | [_], _ => rfl
  have w__law_next := d3.here X G (ps := ["draws", "many"]) fun _ _ _ _ _ _ us hl => match us, hl with | [_, _], _ => rfl
  have w__law_runs := d4.here X G (ps := ["m"]) fun _ _ _ _ _ _ us hl => match us, hl with | [_], _ => rfl
  have w__law_fits := d5.here X G (ps := ["m", "size"]) fun _ _ _ _ _ _ us hl => match us, hl with | [_, _], _ => rfl
  have w__law_chosen := d6.here X G (ps := ["m", "policy", "size"]) fun _ _ _ _ _ _ us hl => match us, hl with | [_, _, _], _ => rfl
  have w__law_take := d7.here X G (ps := ["m", "allocator", "many"]) fun _ _ _ _ _ _ us hl => match us, hl with | [_, _, _], _ => rfl
  have w__law_give := d8.here X G (ps := ["m", "allocator", "address"]) fun _ _ _ _ _ _ us hl => match us, hl with | [_, _, _], _ => rfl
  have w__law_as_told := d9.here X G (ps := ["heap", "m"]) fun _ _ _ _ _ _ us hl => match us, hl with | [_, _], _ => rfl
  have w__law_deed := d10.here X G (ps := ["draws", "heap", "m", "allocator"]) fun _ _ _ _ _ _ us hl => match us, hl with | [_, _, _, _], _ => rfl
  have w_law := d11.here X G (ps := ["script"]) fun _ _ _ _ _ _ us hl => match us, hl with | [_], _ => rfl
  have w_Heap___init__ := dm1.hereI x_Heap X G (ps := ["self", "allocator"]) fun _ _ _ _ _ _ us hl => match us, hl with | [_, _], _ => rfl
  have w_Heap_size_for := dm2.here x_Heap X G (ps := ["self", "many"]) fun _ _ _ _ _ _ us hl => match us, hl with | [_, _], _ => rfl
  have w_Heap_smallest_gap := dm3.here x_Heap X G (ps := ["self", "fitting"]) fun _ _ _ _ _ _ us hl => match us, hl with | [_, _], _ => rfl
  have w_Heap_gap_for := dm4.here x_Heap X G (ps := ["self", "size"]) fun _ _ _ _ _ _ us hl => match us, hl with | [_, _], _ => rfl
  have w_Heap_cut := dm5.here x_Heap X G (ps := ["self", "at", "size"]) fun _ _ _ _ _ _ us hl => match us, hl with | [_, _, _], _ => rfl
  have w_Heap_take := dm6.here x_Heap X G (ps := ["self", "many"]) fun _ _ _ _ _ _ us hl => match us, hl with | [_, _], _ => rfl
  have w_Heap_gap_behind := dm7.here x_Heap X G (ps := ["self", "address"]) fun _ _ _ _ _ _ us hl => match us, hl with | [_, _], _ => rfl
  have w_Heap_unite := dm8.here x_Heap X G (ps := ["self", "at"]) fun _ _ _ _ _ _ us hl => match us, hl with | [_, _], _ => rfl
  have w_Heap_lower_top := dm9.here x_Heap X G (ps := ["self"]) fun _ _ _ _ _ _ us hl => match us, hl with | [_], _ => rfl
  have w_Heap_give := dm10.here x_Heap X G (ps := ["self", "address"]) fun _ _ _ _ _ _ us hl => match us, hl with | [_, _], _ => rfl
  have w_Heap_blocks := dm11.here x_Heap X G (ps := ["self"]) fun _ _ _ _ _ _ us hl => match us, hl with | [_], _ => rfl
  have w_Heap_pieces := dm12.here x_Heap X G (ps := ["self"]) fun _ _ _ _ _ _ us hl => match us, hl with | [_], _ => rfl
  have w_Heap_top := dm13.here x_Heap X G (ps := ["self"]) fun _ _ _ _ _ _ us hl => match us, hl with | [_], _ => rfl
  have w_Heap_size := dm14.here x_Heap X G (ps := ["self", "address"]) fun _ _ _ _ _ _ us hl => match us, hl with | [_, _], _ => rfl
  have hC : ClsT K mg CT := ⟨fun x hx => by
    simp only [CT, List.mem_cons, List.not_mem_nil, or_false] at hx
    rcases hx with rfl
    · refine ⟨C_Heap, PySem.W.mg_of X G x_Heap.a, x_Heap.cls, fun f hf => ?_⟩
      simp only [List.mem_cons, List.not_mem_nil, or_false] at hf
      rcases hf with rfl | rfl | rfl | rfl | rfl | rfl
      · exact n_Heap_policy
      · exact n_Heap_unit
      · exact n_Heap_given
      · exact n_Heap_gaps
      · exact n_Heap_height
      · exact n_Heap_behind_last⟩
  have c_FIRST_ADDRESS : Cst K mg "FIRST_ADDRESS" k_FIRST_ADDRESS := cst_int X G a_FIRST_ADDRESS
  have c_NO_PIECE : Cst K mg "NO_PIECE" k_NO_PIECE := cst_int X G a_NO_PIECE
  have z_abs := PySem.W.mg_none_of X G y_abs
  have z_all := PySem.W.mg_none_of X G y_all
  have z_int := PySem.W.mg_none_of X G y_int
  have z_len := PySem.W.mg_none_of X G y_len
  have z_list := PySem.W.mg_none_of X G y_list
  have z_max := PySem.W.mg_none_of X G y_max
  have z_min := PySem.W.mg_none_of X G y_min
  have z_range := PySem.W.mg_none_of X G y_range
  have z_sorted := PySem.W.mg_none_of X G y_sorted
  have z_tuple := PySem.W.mg_none_of X G y_tuple
  refine ⟨PySem.W.fnOf "law" "law" (defArgs s_law) (defBody s_law) (defScope s_law) .none kV11 dc11 pm11 an11 cd11 ct11, fun s v => .of_eq rfl, fun base _ _ => ?_⟩
  have h_Heap___init__ := ok_Heap___init__ (P := l.prog) (wd := w) (base := base) hC c_FIRST_ADDRESS w_Heap___init__
  have h_Heap_size_for := ok_Heap_size_for (P := l.prog) (wd := w) (base := base) hC z_max w_Heap_size_for
  have h_Heap_smallest_gap := ok_Heap_smallest_gap (P := l.prog) (wd := w) (base := base) hC w_Heap_smallest_gap
  have h_Heap_gap_for := ok_Heap_gap_for (P := l.prog) (wd := w) (base := base) h_Heap_smallest_gap hC z_len z_range c_NO_PIECE w_Heap_gap_for
  have h_Heap_cut := ok_Heap_cut (P := l.prog) (wd := w) (base := base) hC w_Heap_cut
  have h_Heap_take := ok_Heap_take (P := l.prog) (wd := w) (base := base) h_Heap_cut h_Heap_gap_for h_Heap_size_for hC c_NO_PIECE w_Heap_take
  have h_Heap_gap_behind := ok_Heap_gap_behind (P := l.prog) (wd := w) (base := base) hC z_len w_Heap_gap_behind
  have h_Heap_unite := ok_Heap_unite (P := l.prog) (wd := w) (base := base) hC z_len w_Heap_unite
  have h_Heap_lower_top := ok_Heap_lower_top (P := l.prog) (wd := w) (base := base) hC w_Heap_lower_top
  have h_Heap_give := ok_Heap_give (P := l.prog) (wd := w) (base := base) h_Heap_gap_behind h_Heap_lower_top h_Heap_unite hC w_Heap_give
  have h_Heap_blocks := ok_Heap_blocks (P := l.prog) (wd := w) (base := base) hC z_sorted z_tuple w_Heap_blocks
  have h_Heap_pieces := ok_Heap_pieces (P := l.prog) (wd := w) (base := base) hC z_tuple w_Heap_pieces
  have h_Heap_top := ok_Heap_top (P := l.prog) (wd := w) (base := base) hC w_Heap_top
  have h_Heap_size := ok_Heap_size (P := l.prog) (wd := w) (base := base) hC w_Heap_size
  have h__law_draws := ok__law_draws (P := l.prog) (wd := w) (base := base) z_abs z_int z_len z_min z_range w__law_draws
  have h__law_reader := ok__law_reader (P := l.prog) (wd := w) (base := base) h__law_draws z_abs z_len w__law_reader
  have h__law_next := ok__law_next (P := l.prog) (wd := w) (base := base) z_int z_len w__law_next
  have h__law_runs := ok__law_runs (P := l.prog) (wd := w) (base := base) z_range w__law_runs
  have h__law_fits := ok__law_fits (P := l.prog) (wd := w) (base := base) h__law_runs w__law_fits
  have h__law_chosen := ok__law_chosen (P := l.prog) (wd := w) (base := base) h__law_fits z_sorted w__law_chosen
  have h__law_take := ok__law_take (P := l.prog) (wd := w) (base := base) h__law_chosen z_max z_range w__law_take
  have h__law_give := ok__law_give (P := l.prog) (wd := w) (base := base) z_range w__law_give
  have h__law_as_told := ok__law_as_told (P := l.prog) (wd := w) (base := base) h_Heap_blocks h_Heap_pieces h_Heap_size h_Heap_top h__law_runs z_all z_sorted z_tuple w__law_as_told
  have h__law_deed := ok__law_deed (P := l.prog) (wd := w) (base := base) h_Heap_give h_Heap_take h__law_give h__law_next h__law_take z_len z_sorted w__law_deed
  have F_law := fun_mk (st := s_law) d11.l d11.c d11.k
  exact law_fn law_true (ok_law_at h_Heap___init__ h_Heap_blocks h_Heap_give h_Heap_pieces h_Heap_top h__law_as_told h__law_deed h__law_give h__law_next h__law_reader z_list z_range F_law)
end K85
open PySem PySem.W PyProof.Rows
local macro_rules | `(tactic| walk_at "defk") => `(tactic| (refine' Dz.DefK.mk ?a ?l ?c ?k; (case a => k_is); (case l => k_is); (case c => k_is); (case k => k_is)))
local macro_rules | `(tactic| walk_at "clsk") => `(tactic| (refine' Dz.ClsK.mk ?a ?pg ?hd ?po ?sa ?mi ?kc; (case a => k_is); (case pg => k_is); (case hd => k_is); (case po => k_is); (case sa => k_is); (case mi => k_is); (case kc => k_is)))
local macro_rules | `(tactic| walk_at "methk") => `(tactic| (refine' Dz.MethK.mk ?a ?i ?l ?c ?k; (case a => k_is); (case i => k_is); (case l => k_is); (case c => k_is); (case k => k_is)))
set_option maxRecDepth 100000 in
set_option maxHeartbeats 0 in
theorem PySem.Challenge.cw_oneowner_k85_whole_heaps_by_their_words_holds : PySem.Challenge.rw_oneowner_k85_whole_heaps_by_their_words.Holds := by
  w_on; o_law; k_head; (case hw => w_witness2)
  k_fill
  refine L2.walk_of (l := PySem.Challenge.rw_oneowner_k85_whole_heaps_by_their_words) (n := 63) (k := 6) (x := "script") (CX := fun w => L2.CX PySem.Challenge.rw_oneowner_k85_whole_heaps_by_their_words.prog w) (sp := fun w => Dz.spLaw _) rfl (by decide) rfl ⟨rfl, by decide, by decide⟩ (fun w h Y => PySem.W.kIn_of Y) ?F (fun _ _ a ns hl hO hS => ⟨a, ns, rfl, hl, hO, hS, fun _ => rfl⟩) (fun _ _ _ _ _ ⟨_, _, _, _, _, _, _, _, _, _, _, _, h⟩ => h)
  case F =>
    intro w mg fa h KX G hmg
    refine' K85.all_mk KX G hmg ?d1 ?d2 ?d3 ?d4 ?d5 ?d6 ?d7 ?d8 ?d9 ?d10 ?d11 ?x_Heap ?n_Heap_policy ?n_Heap_unit ?n_Heap_given ?n_Heap_gaps ?n_Heap_height ?n_Heap_behind_last ?dm1 ?dm2 ?dm3 ?dm4 ?dm5 ?dm6 ?dm7 ?dm8 ?dm9 ?dm10 ?dm11 ?dm12 ?dm13 ?dm14 ?a_FIRST_ADDRESS ?a_NO_PIECE ?y_abs ?y_all ?y_int ?y_len ?y_list ?y_max ?y_min ?y_range ?y_sorted ?y_tuple
    (case d1 => walk_at "defk"); (case d2 => walk_at "defk"); (case d3 => walk_at "defk"); (case d4 => walk_at "defk"); (case d5 => walk_at "defk"); (case d6 => walk_at "defk")
    (case d7 => walk_at "defk"); (case d8 => walk_at "defk"); (case d9 => walk_at "defk"); (case d10 => walk_at "defk"); (case d11 => walk_at "defk"); (case x_Heap => walk_at "clsk")
    (case n_Heap_policy => k_is); (case n_Heap_unit => k_is); (case n_Heap_given => k_is); (case n_Heap_gaps => k_is); (case n_Heap_height => k_is); (case n_Heap_behind_last => k_is)
    (case dm1 => walk_at "methk"); (case dm2 => walk_at "methk"); (case dm3 => walk_at "methk"); (case dm4 => walk_at "methk"); (case dm5 => walk_at "methk"); (case dm6 => walk_at "methk")
    (case dm7 => walk_at "methk"); (case dm8 => walk_at "methk"); (case dm9 => walk_at "methk"); (case dm10 => walk_at "methk"); (case dm11 => walk_at "methk"); (case dm12 => walk_at "methk")
    (case dm13 => walk_at "methk"); (case dm14 => walk_at "methk"); (case a_FIRST_ADDRESS => k_is); (case a_NO_PIECE => k_is); (case y_abs => k_is); (case y_all => k_is)
    (case y_int => k_is); (case y_len => k_is); (case y_list => k_is); (case y_max => k_is); (case y_min => k_is); (case y_range => k_is)
    (case y_sorted => k_is); (case y_tuple => k_is)
