import PyProof.Rows.All
import Wide.All
import OpenK.AllK
import Wide.FinOn
import HandS.ForMost
import HandS.StrMore
import HandS.IsInst
import HandS.Codes
import HandS.ForExc
import HandS.Flow
import HandS.SortInts
import HandS.Star
import HandS.TupAny
import HandS.TupLe
import HandS.TupLen
import HandS.TupMul
import HandS.Walk
import HandS.Wide
import HandS.Zip
import PyProof.NeData
import PyProof.P3Eq
import PySem.Challenge.RW_oneowner_k20_allocators_and_what_is_none
set_option Elab.async false
set_option linter.all false
set_option maxRecDepth 100000
set_option maxHeartbeats 4000000
namespace Dz
open PySem PySem.Spec PyProof.Rows L2
/-- data without identity: what is never changed -/
inductive P where
  | non | bl (b : Bool) | int (i : Int) | str (x : Str) | lst (xs : List P) | tup (xs : List P)
/-- a value: data, an object of the store, a dict that is not changed any more -/
inductive D where
  | p (x : P) | fz (xs : List P) | kt (xs : List P) | loc (n : Nat) | dic (kvs : List (Key × P)) | dct (kvs : List (List Key × P))
/-- an object of the store -/
inductive MO where
  | lst (xs : List D) | tup (xs : List D) | dic (kvs : List (Key × D)) | dct (kvs : List (List Key × D)) | ins (C : Str) (fs : List (Str × D))
/-- what a local list or dict holds that no other thing knows -/
inductive Lin where
  | lst (xs : List P) | dic (kvs : List (Key × P)) | dct (kvs : List (List Key × P))
inductive Sl where
  | un | v (d : D) | lin (m : Lin)
structure Sta where
  sl : List Sl
  st : Option (List MO)
inductive Res (α : Type) where
  | ok (a : α) (s : Sta) | ex (c : Str) (fs : List P) | bad
inductive Fl where
  | nx (s : Sta) | ret (d : D) (s : Sta) | brk (s : Sta) | cnt (s : Sta) | ex (c : Str) (fs : List P) | bad
/-- the world: where the store's objects lie, what is never changed -/
structure Wo where
  ρ : List Addr
  I : Addr → Prop
abbrev Ev := Sta → Res D
abbrev Ex := Sta → Fl

mutual
/-- the value v is the data -/
inductive Td (K : PySem.W.Frag) (q : Bool) (H : Hp) (I : Addr → Prop) : P → V → Prop
  | non : Td K q H I .non .non
  | bl (b : Bool) : Td K q H I (.bl b) (.bl b)
  | int (i : Int) : Td K q H I (.int i) (.int i)
  | str (x : Str) : Td K q H I (.str x) (.str x)
  | lst {a : Addr} {xs : List P} {vs : List V} : H a = some (.lst vs) → I a → TdL K q H I xs vs → Td K q H I (.lst xs) (.ref a)
  | tup {a : Addr} {xs : List P} {vs : List V} : H a = some (.tup vs) → TdL K q H I xs vs → Td K q H I (.tup xs) (.ref a)
  | tupK {a : Addr} {xs : List P} {vs : List V} : q = true → (∀ H, SqT K H a vs) → TdL K q H I xs vs → Td K q H I (.tup xs) (.ref a)
inductive TdL (K : PySem.W.Frag) (q : Bool) (H : Hp) (I : Addr → Prop) : List P → List V → Prop
  | nil : TdL K q H I [] []
  | cons {x : P} {xs : List P} {v : V} {vs : List V} : Td K q H I x v → TdL K q H I xs vs → TdL K q H I (x :: xs) (v :: vs)
end
/-- dicts of data -/
inductive TdK (K : PySem.W.Frag) (q : Bool) (H : Hp) (I : Addr → Prop) {κ : Type} : List (κ × P) → List (κ × V) → Prop
  | nil : TdK K q H I [] []
  | cons {k : κ} {x : P} {xs : List (κ × P)} {v : V} {vs : List (κ × V)} : Td K q H I x v → TdK K q H I xs vs → TdK K q H I ((k, x) :: xs) ((k, v) :: vs)
/-- the list at a: known to all, never changed, or an object of the module -/
def FzAt (K : PySem.W.Frag) (H : Hp) (I : Addr → Prop) (a : Addr) (vs : List V) : Prop := (∃ ob, H a = some (.frz ob (.lst vs)) ∧ I a) ∨ ∀ H, SqL K H a vs
theorem FzAt.sq {K : PySem.W.Frag} {H : Hp} {I : Addr → Prop} {a : Addr} {vs : List V} (h : FzAt K H I a vs) : SqL K H a vs := by
  rcases h with ⟨ob, h, _⟩ | h
  · exact .inl (.inr ⟨ob, h⟩)
  · exact h _
/-- the value v is d -/
inductive Vd (K : PySem.W.Frag) (H : Hp) (w : Wo) : D → V → Prop
  | p {x : P} {v : V} : Td K false H w.I x v → Vd K H w (.p x) v
  | fz {a : Addr} {xs : List P} {vs : List V} : FzAt K H w.I a vs → TdL K false H w.I xs vs → Vd K H w (.fz xs) (.ref a)
  | kt {a : Addr} {xs : List P} {vs : List V} : (∀ H, SqT K H a vs) → (∀ H, TdL K true H (fun _ => False) xs vs) → Vd K H w (.kt xs) (.ref a)
  | loc {n : Nat} {a : Addr} : w.ρ[n]? = some a → Vd K H w (.loc n) (.ref a)
  | dic {a : Addr} {kvs : List (Key × P)} {vs : List (Key × V)} : Rd H a (.dK vs) → w.I a → TdK K false H w.I kvs vs → Vd K H w (.dic kvs) (.ref a)
  | dct {a : Addr} {kvs : List (List Key × P)} {vs : List (List Key × V)} : Rd H a (.dT vs) → w.I a → TdK K false H w.I kvs vs → Vd K H w (.dct kvs) (.ref a)
inductive VdL (K : PySem.W.Frag) (H : Hp) (w : Wo) : List D → List V → Prop
  | nil : VdL K H w [] []
  | cons {x : D} {xs : List D} {v : V} {vs : List V} : Vd K H w x v → VdL K H w xs vs → VdL K H w (x :: xs) (v :: vs)
inductive VdK (K : PySem.W.Frag) (H : Hp) (w : Wo) {κ : Type} : List (κ × D) → List (κ × V) → Prop
  | nil : VdK K H w [] []
  | cons {k : κ} {x : D} {xs : List (κ × D)} {v : V} {vs : List (κ × V)} : Vd K H w x v → VdK K H w xs vs → VdK K H w ((k, x) :: xs) ((k, v) :: vs)
/-- an object of the store at its address -/
inductive MOk (K : PySem.W.Frag) (mg : Str → Option Value) (H : Hp) (w : Wo) (a : Addr) : MO → Prop
  | lst {xs : List D} {vs : List V} : H a = some (.lst vs) → VdL K H w xs vs → MOk K mg H w a (.lst xs)
  | tup {xs : List D} {vs : List V} : H a = some (.tup vs) → VdL K H w xs vs → MOk K mg H w a (.tup xs)
  | dic {kvs : List (Key × D)} {vs : List (Key × V)} : H a = some (.dK vs) → VdK K H w kvs vs → MOk K mg H w a (.dic kvs)
  | dct {kvs : List (List Key × D)} {vs : List (List Key × V)} : H a = some (.dT vs) → VdK K H w kvs vs → MOk K mg H w a (.dct kvs)
  | ins {C : Str} {c dx : Addr} {fs : List (Str × D)} {vs : List (Str × V)} : mg C = some (.ref c) → H a = some (.ins c dx vs) → H dx = some (.own a) → VdK K H w fs vs → MOk K mg H w a (.ins C fs)
/-- a local list or dict -/
inductive LOk (K : PySem.W.Frag) (H : Hp) (I : Addr → Prop) (a : Addr) : Lin → Prop
  | lst {xs : List P} {vs : List V} : H a = some (.lst vs) → TdL K false H I xs vs → LOk K H I a (.lst xs)
  | dic {kvs : List (Key × P)} {vs : List (Key × V)} : H a = some (.dK vs) → TdK K false H I kvs vs → LOk K H I a (.dic kvs)
  | dct {kvs : List (List Key × P)} {vs : List (List Key × V)} : H a = some (.dT vs) → TdK K false H I kvs vs → LOk K H I a (.dct kvs)

/-! ### what stays -/
section
variable {q : Bool} {K : PySem.W.Frag} {mg : Str → Option Value} {H H' H1 H2 : Hp} {I I' : Addr → Prop} {w w' w1 w2 : Wo}
/-- what is known to stay: the untouchable, and all tuples -/
structure MI (H : Hp) (I : Addr → Prop) (H' : Hp) (I' : Addr → Prop) : Prop where
  at' : ∀ a o, I a → H a = some o → I' a ∧ H' a = some o
  tup : ∀ a xs, H a = some (.tup xs) → H' a = some (.tup xs)
theorem FzAt.mono {K : PySem.W.Frag} {a : Addr} {vs : List V} (m : MI H I H' I') (h : FzAt K H I a vs) : FzAt K H' I' a vs := by
  rcases h with ⟨ob, h, i⟩ | h
  · exact .inl ⟨ob, (m.at' _ _ i h).2, (m.at' _ _ i h).1⟩
  · exact .inr h
theorem MI.sub (h : ∀ a, I a → I' a) : MI H I H I' := ⟨fun a _ i e => ⟨h a i, e⟩, fun _ _ e => e⟩
mutual
theorem Td.mono (m : MI H I H' I') : ∀ {x : P} {v : V}, Td K q H I x v → Td K q H' I' x v
  | .non, _, h => by cases h; exact .non
  | .bl _, _, h => by cases h; exact .bl _
  | .int _, _, h => by cases h; exact .int _
  | .str _, _, h => by cases h; exact .str _
  | .lst xs, _, h => by
    cases h with
    | @lst a _ _ h1 h2 h3 =>
      exact .lst (m.at' _ _ h2 h1).2 (m.at' _ _ h2 h1).1 (TdL.mono m h3)
  | .tup xs, _, h => by
    cases h with
    | @tup a _ _ h1 h3 =>
      exact .tup (m.tup _ _ h1) (TdL.mono m h3)
    | tupK hq h1 h3 => exact .tupK hq h1 (TdL.mono m h3)
theorem TdL.mono (m : MI H I H' I') : ∀ {xs : List P} {vs : List V}, TdL K q H I xs vs → TdL K q H' I' xs vs
  | [], _, h => by cases h; exact .nil
  | _ :: _, _, h => by
    cases h with
    | cons h1 h2 => exact .cons (Td.mono m h1) (TdL.mono m h2)
end
theorem TdK.mono {κ : Type} (m : MI H I H' I') {xs : List (κ × P)} {vs : List (κ × V)} (h : TdK K q H I xs vs) : TdK K q H' I' xs vs := by
  induction h with
  | nil => exact .nil
  | cons h1 _ ih => exact .cons (h1.mono m) ih
/-- what is never changed stays, the store grows -/
structure Mono (w : Wo) (H : Hp) (w' : Wo) (H' : Hp) : Prop where
  imm : MI H w.I H' w'.I
  pre : ∀ (n : Nat) (a : Addr), w.ρ[n]? = some a → w'.ρ[n]? = some a
theorem Mono.refl : Mono w H w H := ⟨.sub fun _ h => h, fun _ _ e => e⟩
theorem MI.trans {I1 : Addr → Prop} (a : MI H I H1 I1) (b : MI H1 I1 H2 I') : MI H I H2 I' := ⟨fun x o h e => let ⟨h1, e1⟩ := a.at' x o h e; b.at' x o h1 e1, fun x xs e => b.tup x xs (a.tup x xs e)⟩
theorem Mono.trans (a : Mono w H w1 H1) (b : Mono w1 H1 w2 H2) : Mono w H w2 H2 := ⟨a.imm.trans b.imm, fun n x e => b.pre n x (a.pre n x e)⟩
theorem Mono.rd (m : Mono w H w' H') {a : Addr} {u : HO} (h : Rd H a u) (i : w.I a) : Rd H' a u ∧ w'.I a := by
  rcases h with h | ⟨o, h⟩
  · exact ⟨.inl (m.imm.at' _ _ i h).2, (m.imm.at' _ _ i h).1⟩
  · exact ⟨.inr ⟨o, (m.imm.at' _ _ i h).2⟩, (m.imm.at' _ _ i h).1⟩
theorem Vd.mono (m : Mono w H w' H') {x : D} {v : V} (h : Vd K H w x v) : Vd K H' w' x v := by
  cases h with
  | p h => exact .p (h.mono m.imm)
  | kt h1 h2 => exact .kt h1 h2
  | fz h1 h3 => exact .fz (h1.mono m.imm) (h3.mono m.imm)
  | loc h => exact .loc (m.pre _ _ h)
  | dic h1 h2 h3 => exact .dic (m.rd h1 h2).1 (m.rd h1 h2).2 (h3.mono m.imm)
  | dct h1 h2 h3 => exact .dct (m.rd h1 h2).1 (m.rd h1 h2).2 (h3.mono m.imm)
theorem VdL.mono (m : Mono w H w' H') {xs : List D} {vs : List V} (h : VdL K H w xs vs) : VdL K H' w' xs vs := by
  induction h with
  | nil => exact .nil
  | cons h1 _ ih => exact .cons (h1.mono m) ih
theorem VdK.mono {κ : Type} (m : Mono w H w' H') {xs : List (κ × D)} {vs : List (κ × V)} (h : VdK K H w xs vs) : VdK K H' w' xs vs := by
  induction h with
  | nil => exact .nil
  | cons h1 _ ih => exact .cons (h1.mono m) ih
/-- from a def's entry: what was tracked stays, but the store's objects; what is new is new -/
structure Ext (w : Wo) (H : Hp) (w' : Wo) (H' : Hp) : Prop where
  keep : ∀ (a : Addr) (o : HO), H a = some o → a ∉ w.ρ → H' a = some o
  pre : ∀ (n : Nat) (a : Addr), w.ρ[n]? = some a → w'.ρ[n]? = some a
  newr : ∀ a : Addr, a ∈ w'.ρ → a ∈ w.ρ ∨ H a = none
  imm : ∀ a : Addr, w.I a → w'.I a
  newi : ∀ a : Addr, w'.I a → w.I a ∨ H a = none
  there : ∀ a : Addr, H' a = none → H a = none
  tup : ∀ (a : Addr) (xs : List V), H a = some (.tup xs) → H' a = some (.tup xs)
theorem Ext.refl : Ext w H w H := ⟨fun _ _ e _ => e, fun _ _ e => e, fun _ h => .inl h, fun _ h => h, fun _ h => .inl h, fun _ h => h, fun _ _ e => e⟩
theorem Ext.trans (a : Ext w H w1 H1) (b : Ext w1 H1 w2 H2) : Ext w H w2 H2 where
  keep := fun x o e n => b.keep x o (a.keep x o e n) fun h => by
    rcases a.newr x h with h | h
    · exact n h
    · rw [e] at h; cases h
  pre := fun n x e => b.pre n x (a.pre n x e)
  newr := fun x h => by
    rcases b.newr x h with h | h
    · exact a.newr x h
    · exact .inr (a.there x h)
  imm := fun x h => b.imm x (a.imm x h)
  newi := fun x h => by
    rcases b.newi x h with h | h
    · exact a.newi x h
    · exact .inr (a.there x h)
  there := fun x h => a.there x (b.there x h)
  tup := fun x xs e => b.tup x xs (a.tup x xs e)
/-- the world is sound -/
structure Sound (w : Wo) (H : Hp) : Prop where
  nd : w.ρ.Nodup
  rt : ∀ a, a ∈ w.ρ → H a ≠ none
  ri : ∀ a, a ∈ w.ρ → ¬ w.I a
  it : ∀ a, w.I a → H a ≠ none
theorem Ext.mono (x : Ext w H w' H') (s : Sound w H) : Mono w H w' H' :=
  ⟨⟨fun a o h e => ⟨x.imm a h, x.keep a o e fun z => s.ri a z h⟩, x.tup⟩, x.pre⟩
/-- the store -/
def StOk (K : PySem.W.Frag) (mg : Str → Option Value) (H : Hp) (w : Wo) : Option (List MO) → Prop
  | none => True
  | some S => w.ρ.length = S.length ∧ ∀ (n : Nat) (a : Addr) (m : MO), w.ρ[n]? = some a → S[n]? = some m → MOk K mg H w a m
/-- a def's entry -/
structure Ba where
  w : Wo
  H : Hp
def SlOk (K : PySem.W.Frag) (H : Hp) (w : Wo) (B : Ba) (o : Option (Option V)) : Sl → Prop
  | .un => True
  | .v d => ∃ v, o = some (some v) ∧ Vd K H w d v
  | .lin m => ∃ a, o = some (some (.ref a)) ∧ LOk K H w.I a m ∧ a ∉ w.ρ ∧ ¬ w.I a ∧ B.H a = none
def isLin : Option Sl → Bool
  | some (.lin _) => true
  | _ => false
/-- the state stands at σ, H -/
structure Wd (K : PySem.W.Frag) (mg : Str → Option Value) (B : Ba) (w : Wo) (σ : L2.St) (s : Sta) (H : Hp) : Prop where
  ext : Ext B.w B.H w H
  snd : Sound w H
  sb : Sound B.w B.H
  sto : StOk K mg H w s.st
  sl : ∀ (i : Nat) (x : Sl), s.sl[i]? = some x → SlOk K H w B σ[i]? x
  len : s.sl.length ≤ σ.length
  two : ∀ i j : Nat, i ≠ j → isLin s.sl[i]? = true → isLin s.sl[j]? = true → σ[i]? ≠ σ[j]?
theorem LOk.there {a : Addr} {m : Lin} (h : LOk K H I a m) : H a ≠ none := by
  cases h with
  | lst h _ => rw [h]; exact fun z => nomatch z
  | dic h _ => rw [h]; exact fun z => nomatch z
  | dct h _ => rw [h]; exact fun z => nomatch z
theorem LOk.mono {a : Addr} {m : Lin} (h : LOk K H I a m) (k : ∀ o, H a = some o → H' a = some o) (i : MI H I H' I') : LOk K H' I' a m := by
  cases h with
  | lst h t => exact .lst (k _ h) (t.mono i)
  | dic h t => exact .dic (k _ h) (t.mono i)
  | dct h t => exact .dct (k _ h) (t.mono i)
/-- behind a call or a new thing: all that is not the store's stays -/
theorem Wd.step {B : Ba} {σ : L2.St} {s : Sta} {S' : Option (List MO)} (W : Wd K mg B w σ s H) (x : Ext w H w' H') (sn : Sound w' H') (st : StOk K mg H' w' S') : Wd K mg B w' σ ⟨s.sl, S'⟩ H' where
  ext := W.ext.trans x
  snd := sn
  sb := W.sb
  sto := st
  sl := fun i y e => by
    have h := W.sl i y e
    have m := x.mono W.snd
    cases y with
    | un => trivial
    | v d => obtain ⟨v, e1, h1⟩ := h; exact ⟨v, e1, h1.mono m⟩
    | lin l =>
      obtain ⟨a, e1, h1, h2, h3, h4⟩ := h
      refine ⟨a, e1, h1.mono (fun o e => x.keep a o e h2) m.imm, fun z => ?_, fun z => ?_, h4⟩
      · rcases x.newr a z with z | z
        · exact h2 z
        · exact h1.there z
      · rcases x.newi a z with z | z
        · exact h3 z
        · exact h1.there z
  len := W.len
  two := W.two
theorem MOk.mono {a : Addr} {m : MO} (h : MOk K mg H w a m) (k : ∀ o, H a = some o → H' a = some o) (ko : ∀ b, H b = some (.own a) → H' b = some (.own a)) (i : Mono w H w' H') : MOk K mg H' w' a m := by
  cases h with
  | lst h t => exact .lst (k _ h) (t.mono i)
  | tup h t => exact .tup (k _ h) (t.mono i)
  | dic h t => exact .dic (k _ h) (t.mono i)
  | dct h t => exact .dct (k _ h) (t.mono i)
  | ins g h o t => exact .ins g (k _ h) (ko _ o) (t.mono i)
theorem MOk.there {a : Addr} {m : MO} (h : MOk K mg H w a m) : H a ≠ none := by
  cases h with
  | lst h _ => rw [h]; exact fun z => nomatch z
  | tup h _ => rw [h]; exact fun z => nomatch z
  | dic h _ => rw [h]; exact fun z => nomatch z
  | dct h _ => rw [h]; exact fun z => nomatch z
  | ins _ h _ _ => rw [h]; exact fun z => nomatch z
/-- nothing of what was is changed -/
theorem StOk.mono {S : Option (List MO)} (h : StOk K mg H w S) (k : ∀ a o, H a = some o → H' a = some o) (i : Mono w H w' H') (l : w'.ρ = w.ρ) : StOk K mg H' w' S := by
  cases S with
  | none => trivial
  | some S =>
    refine ⟨by rw [l]; exact h.1, fun n a m e1 e2 => ?_⟩
    rw [l] at e1
    exact (h.2 n a m e1 e2).mono (fun o e => k _ o e) (fun b e => k _ _ e) i
/-- a new address -/
def Wo.add (w : Wo) (p : Addr) : Wo := ⟨w.ρ, fun a => w.I a ∨ a = p⟩
theorem upd_keep {p : Addr} {o : HO} (np : H p = none) : ∀ a u, H a = some u → upd H p o a = some u := fun a u e => by
  rw [upd_ne (ne_of_none e np)]; exact e
theorem Ext.fresh {p : Addr} {o : HO} (np : H p = none) : Ext w H (w.add p) (upd H p o) where
  keep := fun a u e _ => upd_keep np a u e
  pre := fun _ _ e => e
  newr := fun _ h => .inl h
  tup := fun a xs e => upd_keep np a _ e
  imm := fun _ h => .inl h
  newi := fun a h => by
    rcases h with h | rfl
    · exact .inl h
    · exact .inr np
  there := fun a h => by
    cases e : H a with
    | none => rfl
    | some u => rw [upd_keep np a u e] at h; cases h
theorem Sound.fresh {p : Addr} {o : HO} (s : Sound w H) (np : H p = none) : Sound (w.add p) (upd H p o) where
  nd := s.nd
  rt := fun a h z => by
    cases e : H a with
    | none => exact s.rt a h e
    | some u => rw [upd_keep np a u e] at z; cases z
  ri := fun a h z => by
    rcases z with z | rfl
    · exact s.ri a h z
    · exact s.rt a h np
  it := fun a h z => by
    rcases h with h | rfl
    · cases e : H a with
      | none => exact s.it a h e
      | some u => rw [upd_keep np a u e] at z; cases z
    · rw [upd_same] at z; cases z
theorem Wd.fresh {B : Ba} {σ : L2.St} {s : Sta} {p : Addr} {o : HO} (W : Wd K mg B w σ s H) (np : H p = none) : Wd K mg B (w.add p) σ s (upd H p o) :=
  W.step (Ext.fresh np) (W.snd.fresh np) (W.sto.mono (fun a u e => upd_keep np a u e) ((Ext.fresh np).mono W.snd) rfl)
end
end Dz
namespace Dz
open PySem PySem.Spec PyProof.Rows L2 PySem.SeqAt
/-! ### == of data -/
mutual
def eqP : P → P → Bool
  | .non, y => match y with | .non => true | _ => false
  | .bl a, y => match y with | .bl b => a == b | .int j => (if a then 1 else 0) == j | _ => false
  | .int i, y => match y with | .bl b => i == (if b then 1 else 0) | .int j => i == j | _ => false
  | .str a, y => match y with | .str b => a == b | _ => false
  | .lst xs, y => match y with | .lst ys => eqL xs ys | _ => false
  | .tup xs, y => match y with | .tup ys => eqL xs ys | _ => false
def eqL : List P → List P → Bool
  | [], ys => match ys with | [] => true | _ :: _ => false
  | x :: xs, ys => match ys with | [] => false | y :: ys => eqP x y && eqL xs ys
end
mutual
def deep : P → Nat
  | .lst xs => deepL xs + 1
  | .tup xs => deepL xs + 1
  | _ => 0
def deepL : List P → Nat
  | [] => 0
  | x :: xs => max (deep x) (deepL xs)
end
mutual
theorem eqP_refl : ∀ x : P, eqP x x = true
  | .non => rfl
  | .bl _ => by simp [eqP]
  | .int _ => by simp [eqP]
  | .str _ => by simp [eqP]
  | .lst xs => by rw [eqP]; exact eqL_refl xs
  | .tup xs => by rw [eqP]; exact eqL_refl xs
theorem eqL_refl : ∀ xs : List P, eqL xs xs = true
  | [] => rfl
  | x :: xs => by rw [eqL]; simp [eqP_refl x, eqL_refl xs]
end
def eqNth (xs ys : List P) (j : Nat) : Bool := eqP (xs.getD j .non) (ys.getD j .non)
theorem eqL_range : ∀ xs ys : List P, ((List.range (min xs.length ys.length)).all (eqNth xs ys) && xs.length == ys.length) = eqL xs ys
  | [], [] => rfl
  | [], _ :: _ => by simp [eqL]
  | _ :: _, [] => by simp [eqL]
  | x :: xs, y :: ys => by
    rw [eqL, ← eqL_range xs ys]
    have e : min (x :: xs).length (y :: ys).length = min xs.length ys.length + 1 := by simp [Nat.succ_min_succ]
    rw [e, List.range_succ_eq_map, List.all_cons, List.all_map, Bool.and_assoc]
    congr 1
    congr 1
    simp
theorem eqL_same {xs ys : List P} (h : xs.length = ys.length) : (List.range xs.length).all (eqNth xs ys) = eqL xs ys := by
  rw [← eqL_range xs ys]; simp [h]
theorem eqL_other {xs ys : List P} (h : xs.length ≠ ys.length) : eqL xs ys = false := by
  rw [← eqL_range xs ys]; simp [h]
section
variable {q : Bool} {K : PySem.W.Frag} {H : Hp} {J : Addr → Prop} {X : Cx} {pins : List (Addr × Obj)} {σ : L2.St} {s : Shared}
mutual
theorem Td.weak : ∀ {x : P} {v : V}, Td K q H J x v → Td K true H J x v
  | .non, _, h => by cases h; exact .non
  | .bl _, _, h => by cases h; exact .bl _
  | .int _, _, h => by cases h; exact .int _
  | .str _, _, h => by cases h; exact .str _
  | .lst xs, _, h => by
    cases h with
    | lst h1 h2 h3 => exact .lst h1 h2 (TdL.weak h3)
  | .tup xs, _, h => by
    cases h with
    | tup h1 h3 => exact .tup h1 (TdL.weak h3)
    | tupK hq h1 h3 => exact .tupK rfl h1 (TdL.weak h3)
theorem TdL.weak : ∀ {xs : List P} {vs : List V}, TdL K q H J xs vs → TdL K true H J xs vs
  | [], _, h => by cases h; exact .nil
  | _ :: _, _, h => by
    cases h with
    | cons h1 h2 => exact .cons (Td.weak h1) (TdL.weak h2)
end
theorem TdL.len : ∀ {xs : List P} {vs : List V}, TdL K q H J xs vs → xs.length = vs.length
  | _, _, .nil => rfl
  | _, _, .cons _ t => by simp [TdL.len t]
theorem Td.sqT {xs : List P} {v : V} (t : Td K q H J (.tup xs) v) : ∃ a vs, v = .ref a ∧ SqT K H a vs ∧ TdL K q H J xs vs := by
  cases t with
  | tup h t => exact ⟨_, _, rfl, .of h, t⟩
  | tupK _ h t => exact ⟨_, _, rfl, h _, t⟩
theorem Td.sqL {xs : List P} {v : V} (t : Td K q H J (.lst xs) v) : ∃ a vs, v = .ref a ∧ SqL K H a vs ∧ TdL K q H J xs vs := by
  cases t with
  | lst h _ t => exact ⟨_, _, rfl, .of h, t⟩
theorem tl_ne {a : Addr} {xs ys : List V} (I : Inv X pins σ H s) (h1 : SqL X.K H a xs) (h2 : SqT X.K H a ys) : False := by
  obtain ⟨_, _, ⟨o, n, e, c, _⟩, _⟩ := I.list h1
  obtain ⟨_, _, ⟨o', e', c', _⟩, _⟩ := I.tuple h2
  rw [e] at e'; cases e'
  rw [c] at c'; exact absurd c' (by decide)
mutual
theorem Td.uniq (I : Inv X pins σ H s) : ∀ (x y : P) (v : V), Td X.K q H J x v → Td X.K q H J y v → x = y
  | .non, _, _, h, h' => by cases h; cases h'; rfl
  | .bl _, _, _, h, h' => by cases h; cases h'; rfl
  | .int _, _, _, h, h' => by cases h; cases h'; rfl
  | .str _, _, _, h, h' => by cases h; cases h'; rfl
  | .lst xs, y, _, h, h' => by
    obtain ⟨a, vs, rfl, q, t⟩ := h.sqL
    cases y with
    | lst ys =>
      obtain ⟨b, ws, e, q', t'⟩ := h'.sqL
      cases e
      cases I.list_inj q q'
      rw [TdL.uniq I xs ys _ t t']
    | tup ys =>
      obtain ⟨b, ws, e, q', t'⟩ := h'.sqT
      cases e
      exact (tl_ne I q q').elim
    | non => cases h'
    | bl _ => cases h'
    | int _ => cases h'
    | str _ => cases h'
  | .tup xs, y, _, h, h' => by
    obtain ⟨a, vs, rfl, q, t⟩ := h.sqT
    cases y with
    | tup ys =>
      obtain ⟨b, ws, e, q', t'⟩ := h'.sqT
      cases e
      cases I.tuple_inj q q'
      rw [TdL.uniq I xs ys _ t t']
    | lst ys =>
      obtain ⟨b, ws, e, q', t'⟩ := h'.sqL
      cases e
      exact (tl_ne I q' q).elim
    | non => cases h'
    | bl _ => cases h'
    | int _ => cases h'
    | str _ => cases h'
theorem TdL.uniq (I : Inv X pins σ H s) : ∀ (xs ys : List P) (vs : List V), TdL X.K q H J xs vs → TdL X.K q H J ys vs → xs = ys
  | [], _, _, h, h' => by cases h; cases h'; rfl
  | x :: xs, _, _, h, h' => by
    cases h with
    | cons h1 h2 =>
      cases h' with
      | cons g1 g2 => rw [Td.uniq I _ _ _ h1 g1, TdL.uniq I _ _ _ h2 g2]
end
def flatP : P → Bool
  | .lst _ => false
  | .tup _ => false
  | _ => true
theorem flat_v {x : P} {v : V} (t : Td K q H J x v) (h : flatP x = true) : flatV v = true := by
  cases t <;> first | rfl | cases h
theorem flat_eq {x y : P} {v u : V} (t : Td K q H J x v) (t' : Td K q H J y u) (h : flatP x = true) (h' : flatP y = true) : eqV v u = eqP x y := by
  cases t <;> cases t' <;> first | rfl | cases h | cases h' | (rename_i a b; cases a <;> cases b <;> rfl)
/-- how a container stands -/
theorem lst_at (I : Inv X pins σ H s) {xs : List P} {v : V} {u : Value} (t : Td X.K q H J (.lst xs) v) (r : RelV v u) : ∃ a its vs, v = .ref a ∧ u = .ref a ∧ s.heap.IsList a (its : List Value).toArray ∧ TdL X.K q H J xs vs ∧ Vals vs its := by
  obtain ⟨a, vs, rfl, q, t⟩ := t.sqL
  obtain ⟨its, rv, p, _⟩ := I.list q
  cases r
  exact ⟨a, its, vs, rfl, rfl, p.isList, t, rv⟩
theorem tup_at (I : Inv X pins σ H s) {xs : List P} {v : V} {u : Value} (t : Td X.K q H J (.tup xs) v) (r : RelV v u) : ∃ a its vs, v = .ref a ∧ u = .ref a ∧ s.heap.IsTuple a (its : List Value).toArray ∧ TdL X.K q H J xs vs ∧ Vals vs its := by
  obtain ⟨a, vs, rfl, q, t⟩ := t.sqT
  obtain ⟨its, rv, p, _⟩ := I.tuple q
  cases r
  exact ⟨a, its, vs, rfl, rfl, show s.heap.IsTuple a its.toArray from p, t, rv⟩
theorem fl_cases {x : P} {v : V} {u : Value} (t : Td K q H J x v) (h : flatP x = true) (r : RelV v u) : u = .none ∨ (∃ b, u = .bool b) ∨ (∃ i k, u = .int i k) ∨ ∃ z k, u = .str z k := by
  cases t with
  | non => exact .inl r
  | bl b => exact .inr (.inl ⟨b, r⟩)
  | int i => obtain ⟨k, e⟩ := r; exact .inr (.inr (.inl ⟨i, k, e⟩))
  | str z => obtain ⟨k, e⟩ := r; exact .inr (.inr (.inr ⟨z, k, e⟩))
  | lst _ _ _ => cases h
  | tup _ _ => cases h
  | tupK _ _ _ => cases h
theorem eq_fc {x y : P} (h : flatP x = true) (h' : flatP y = false) : eqP x y = false := by
  cases x <;> cases y <;> first | (cases h; done) | (cases h'; done) | simp [eqP]
theorem eq_cf {x y : P} (h : flatP x = false) (h' : flatP y = true) : eqP x y = false := by
  cases x <;> cases y <;> first | (cases h; done) | (cases h'; done) | simp [eqP]
theorem nth_v : ∀ {xs : List P} {vs : List V} (t : TdL K q H J xs vs) {j : Nat}, j < vs.length → ∃ v, vs[j]? = some v ∧ Td K q H J (xs.getD j .non) v
  | _, _, .nil, j, h => nomatch h
  | _, _, .cons h1 _, 0, _ => ⟨_, rfl, h1⟩
  | _, _, .cons _ t, j + 1, h => nth_v t (Nat.lt_of_succ_lt_succ h)
theorem nth_d : ∀ {xs : List P} {j : Nat}, j < xs.length → deep (xs.getD j .non) ≤ deepL xs
  | x :: xs, 0, _ => Nat.le_max_left _ _
  | x :: xs, j + 1, h => Nat.le_trans (nth_d (xs := xs) (Nat.lt_of_succ_lt_succ h)) (Nat.le_max_right _ _)
/-- == as the containers ask of their items -/
theorem eq_at (I : Inv X pins σ H s) : ∀ (n : Nat) (x y : P) (v w : V) (a b : Value) (A : Around), min (deep x) (deep y) ≤ n → Td X.K q H J x v → Td X.K q H J y w → RelV v a → RelV w b → A.units + n < cLine → EqAt A s a b (eqP x y) := by
  intro n
  induction n with
  | zero =>
    intro x y v w a b A hn tx ty rx ry hu
    have hu' : A.units < cLine := hu
    cases fx : flatP x with
    | true =>
      cases fy : flatP y with
      | true => rw [← flat_eq tx ty fx fy]; exact eqAt_V rx ry (flat_v tx fx) (flat_v ty fy)
      | false =>
        rw [eq_fc fx fy]
        cases y with
        | lst ys =>
          obtain ⟨l, its, vs, rfl, rfl, p, _⟩ := lst_at I ty ry
          rcases fl_cases tx fx rx with rfl | ⟨_, rfl⟩ | ⟨_, _, rfl⟩ | ⟨_, _, rfl⟩ <;> first | exact EqAt.none_list p hu' | exact EqAt.bool_list _ p hu' | exact EqAt.int_list _ _ p hu' | exact EqAt.str_list _ _ p hu'
        | tup ys =>
          obtain ⟨l, its, vs, rfl, rfl, p, _⟩ := tup_at I ty ry
          rcases fl_cases tx fx rx with rfl | ⟨_, rfl⟩ | ⟨_, _, rfl⟩ | ⟨_, _, rfl⟩ <;> first | exact EqAt.none_tuple p hu' | exact EqAt.bool_tuple _ p hu' | exact EqAt.int_tuple _ _ p hu' | exact EqAt.str_tuple _ _ p hu'
        | non => cases fy
        | bl _ => cases fy
        | int _ => cases fy
        | str _ => cases fy
    | false =>
      cases fy : flatP y with
      | true =>
        rw [eq_cf fx fy]
        cases x with
        | lst xs =>
          obtain ⟨l, its, vs, rfl, rfl, p, _⟩ := lst_at I tx rx
          rcases fl_cases ty fy ry with rfl | ⟨_, rfl⟩ | ⟨_, _, rfl⟩ | ⟨_, _, rfl⟩ <;> first | exact EqAt.list_none p hu' | exact EqAt.list_bool _ p hu' | exact EqAt.list_int _ _ p hu' | exact EqAt.list_str _ _ p hu'
        | tup xs =>
          obtain ⟨l, its, vs, rfl, rfl, p, _⟩ := tup_at I tx rx
          rcases fl_cases ty fy ry with rfl | ⟨_, rfl⟩ | ⟨_, _, rfl⟩ | ⟨_, _, rfl⟩ <;> first | exact EqAt.tuple_none p hu' | exact EqAt.tuple_bool _ p hu' | exact EqAt.tuple_int _ _ p hu' | exact EqAt.tuple_str _ _ p hu'
        | non => cases fx
        | bl _ => cases fx
        | int _ => cases fx
        | str _ => cases fx
      | false =>
        exfalso
        cases x <;> cases y <;> first | (cases fx; done) | (cases fy; done) | (simp [deep] at hn; done) | (simp [deep] at hn; omega)
  | succ n ih =>
    intro x y v w a b A hn tx ty rx ry hu
    have hu' : A.units < cLine := Nat.lt_of_le_of_lt (Nat.le_add_right _ _) hu
    by_cases h0 : min (deep x) (deep y) ≤ n
    · exact ih x y v w a b A h0 tx ty rx ry (by omega)
    have items : ∀ {xs ys : List P} {vs ws : List V} {is js : List Value}, min (deepL xs) (deepL ys) ≤ n → TdL X.K q H J xs vs → TdL X.K q H J ys ws → Vals vs is → Vals ws js →
        ∀ j (h1 : j < is.toArray.size) (h2 : j < js.toArray.size), EqAt A.in1 s is.toArray[j] js.toArray[j] (eqNth xs ys j) := fun {xs ys vs ws is js} hd t1 t2 r1 r2 j h1 h2 => by
      have l1 : j < vs.length := by rw [r1.length]; simpa using h1
      have l2 : j < ws.length := by rw [r2.length]; simpa using h2
      obtain ⟨v1, e1, d1⟩ := nth_v t1 l1
      obtain ⟨v2, e2, d2⟩ := nth_v t2 l2
      obtain ⟨u1, g1, k1⟩ := r1.get e1
      obtain ⟨u2, g2, k2⟩ := r2.get e2
      have q1 : is.toArray[j] = u1 := by simpa [List.getElem?_eq_some_iff] using (List.getElem?_eq_some_iff.mp g1).2
      have q2 : js.toArray[j] = u2 := by simpa [List.getElem?_eq_some_iff] using (List.getElem?_eq_some_iff.mp g2).2
      rw [q1, q2]
      have p1 := nth_d (xs := xs) (j := j) (by rw [t1.len]; exact l1)
      have p2 := nth_d (xs := ys) (j := j) (by rw [t2.len]; exact l2)
      exact ih _ _ _ _ _ _ A.in1 (by omega) d1 d2 k1 k2 (by show A.units + 1 + n < _; omega)
    cases x with
    | non => simp [deep] at h0
    | bl _ => simp [deep] at h0
    | int _ => simp [deep] at h0
    | str _ => simp [deep] at h0
    | lst xs =>
      cases y with
      | non => simp [deep] at h0
      | bl _ => simp [deep] at h0
      | int _ => simp [deep] at h0
      | str _ => simp [deep] at h0
      | tup ys =>
        obtain ⟨l, is, vs, rfl, rfl, p, _⟩ := lst_at I tx rx
        obtain ⟨m, js, ws, rfl, rfl, p', _⟩ := tup_at I ty ry
        exact EqAt.list_tuple p p' hu'
      | lst ys =>
        obtain ⟨l, is, vs, rfl, rfl, p, t1, r1⟩ := lst_at I tx rx
        obtain ⟨m, js, ws, rfl, rfl, p', t2, r2⟩ := lst_at I ty ry
        by_cases hlm : l = m
        · subst hlm
          rw [Td.uniq I _ _ _ tx ty, eqP_refl]
          exact EqAt.same _
        · refine EqAt.of_refs hlm ?_
          have n1 : is.toArray.size = xs.length := by rw [t1.len, r1.length]; simp
          have n2 : js.toArray.size = ys.length := by rw [t2.len, r2.length]; simp
          rw [eqP]
          by_cases hsz : xs.length = ys.length
          · rw [← eqL_same hsz, ← n1]
            exact RcAt.lists p p' (by rw [n1, n2, hsz]) hu' (items (by simp [deep] at hn; omega) t1 t2 r1 r2)
          · rw [eqL_other hsz]
            exact RcAt.lists_lengths p p' (by rw [n1, n2]; simpa using hsz) hu'
    | tup xs =>
      cases y with
      | non => simp [deep] at h0
      | bl _ => simp [deep] at h0
      | int _ => simp [deep] at h0
      | str _ => simp [deep] at h0
      | lst ys =>
        obtain ⟨l, is, vs, rfl, rfl, p, _⟩ := tup_at I tx rx
        obtain ⟨m, js, ws, rfl, rfl, p', _⟩ := lst_at I ty ry
        exact EqAt.tuple_list p p' hu'
      | tup ys =>
        obtain ⟨l, is, vs, rfl, rfl, p, t1, r1⟩ := tup_at I tx rx
        obtain ⟨m, js, ws, rfl, rfl, p', t2, r2⟩ := tup_at I ty ry
        by_cases hlm : l = m
        · subst hlm
          rw [Td.uniq I _ _ _ tx ty, eqP_refl]
          exact EqAt.same _
        · refine EqAt.of_refs hlm ?_
          have n1 : is.toArray.size = xs.length := by rw [t1.len, r1.length]; simp
          have n2 : js.toArray.size = ys.length := by rw [t2.len, r2.length]; simp
          rw [eqP]
          rw [← eqL_range, ← n1, ← n2]
          exact RcAt.tuples p p' hu' (items (by simp [deep] at hn; omega) t1 t2 r1 r2)
/-- .. of flat data -/
theorem rc_fl {A : Around} {x y : P} {v w : V} {a b : Value} (tx : Td K q H J x v) (ty : Td K q H J y w) (rx : RelV v a) (ry : RelV w b) (fx : flatP x = true) (fy : flatP y = true) : RcAt A s a b (eqP x y) ∧ RcNeAt A s a b (!eqP x y) := by
  cases tx with
  | non =>
    obtain rfl := rx
    cases ty with
    | non =>
      obtain rfl := ry
      exact ⟨RcAt.none_none, RcNeAt.none_none⟩
    | bl _ =>
      obtain rfl := ry
      exact ⟨RcAt.none_bool _, RcNeAt.none_bool _⟩
    | int _ =>
      obtain ⟨_, rfl⟩ := ry
      exact ⟨RcAt.none_int _ _, RcNeAt.none_int _ _⟩
    | str _ =>
      obtain ⟨_, rfl⟩ := ry
      exact ⟨RcAt.none_str _ _, RcNeAt.none_str _ _⟩
    | lst _ _ _ => cases fy
    | tup _ _ => cases fy
    | tupK _ _ _ => cases fy
  | bl _ =>
    obtain rfl := rx
    cases ty with
    | non =>
      obtain rfl := ry
      exact ⟨RcAt.bool_none _, RcNeAt.bool_none _⟩
    | bl _ =>
      obtain rfl := ry
      exact ⟨RcAt.bool_bool _ _, RcNeAt.bool_bool _ _⟩
    | int _ =>
      obtain ⟨_, rfl⟩ := ry
      exact ⟨RcAt.bool_int _ _ _, RcNeAt.bool_int _ _ _⟩
    | str _ =>
      obtain ⟨_, rfl⟩ := ry
      exact ⟨RcAt.bool_str _ _ _, RcNeAt.bool_str _ _ _⟩
    | lst _ _ _ => cases fy
    | tup _ _ => cases fy
    | tupK _ _ _ => cases fy
  | int _ =>
    obtain ⟨_, rfl⟩ := rx
    cases ty with
    | non =>
      obtain rfl := ry
      exact ⟨RcAt.int_none _ _, RcNeAt.int_none _ _⟩
    | bl _ =>
      obtain rfl := ry
      exact ⟨RcAt.int_bool _ _ _, RcNeAt.int_bool _ _ _⟩
    | int _ =>
      obtain ⟨_, rfl⟩ := ry
      exact ⟨RcAt.int_int _ _ _ _, RcNeAt.int_int _ _ _ _⟩
    | str _ =>
      obtain ⟨_, rfl⟩ := ry
      exact ⟨RcAt.int_str _ _ _ _, RcNeAt.int_str _ _ _ _⟩
    | lst _ _ _ => cases fy
    | tup _ _ => cases fy
    | tupK _ _ _ => cases fy
  | str _ =>
    obtain ⟨_, rfl⟩ := rx
    cases ty with
    | non =>
      obtain rfl := ry
      exact ⟨RcAt.str_none _ _, RcNeAt.str_none _ _⟩
    | bl _ =>
      obtain rfl := ry
      exact ⟨RcAt.str_bool _ _ _, RcNeAt.str_bool _ _ _⟩
    | int _ =>
      obtain ⟨_, rfl⟩ := ry
      exact ⟨RcAt.str_int _ _ _ _, RcNeAt.str_int _ _ _ _⟩
    | str _ =>
      obtain ⟨_, rfl⟩ := ry
      exact ⟨RcAt.str_str _ _ _ _, RcNeAt.str_str _ _ _ _⟩
    | lst _ _ _ => cases fy
    | tup _ _ => cases fy
    | tupK _ _ _ => cases fy
  | lst _ _ _ => cases fx
  | tup _ _ => cases fx
  | tupK _ _ _ => cases fx
/-- == and != themselves -/
theorem rc_at (I : Inv X pins σ H s) {x y : P} {v w : V} {a b : Value} {A : Around} (hu : A.units + (min (deep x) (deep y) + 1) < cLine) (tx : Td X.K q H J x v) (ty : Td X.K q H J y w) (rx : RelV v a) (ry : RelV w b) :
    RcAt A s a b (eqP x y) ∧ RcNeAt A s a b (!eqP x y) := by
  have hu' : A.units < cLine := by omega
  cases fx : flatP x with
  | true =>
    cases fy : flatP y with
    | true => exact rc_fl tx ty rx ry fx fy
    | false =>
      rw [eq_fc fx fy]
      cases y with
      | lst ys =>
        obtain ⟨l, its, vs, rfl, rfl, p, _⟩ := lst_at I ty ry
        rcases fl_cases tx fx rx with rfl | ⟨_, rfl⟩ | ⟨_, _, rfl⟩ | ⟨_, _, rfl⟩ <;> refine ⟨?_, ?_⟩ <;>
          first | exact RcAt.none_list p hu' | exact RcAt.bool_list _ p hu' | exact RcAt.int_list _ _ p hu' | exact RcAt.str_list _ _ p hu' | exact RcNeAt.none_list p hu' | exact RcNeAt.bool_list _ p hu' | exact RcNeAt.int_list _ _ p hu' | exact RcNeAt.str_list _ _ p hu'
      | tup ys =>
        obtain ⟨l, its, vs, rfl, rfl, p, _⟩ := tup_at I ty ry
        rcases fl_cases tx fx rx with rfl | ⟨_, rfl⟩ | ⟨_, _, rfl⟩ | ⟨_, _, rfl⟩ <;> refine ⟨?_, ?_⟩ <;>
          first | exact RcAt.none_tuple p hu' | exact RcAt.bool_tuple _ p hu' | exact RcAt.int_tuple _ _ p hu' | exact RcAt.str_tuple _ _ p hu' | exact RcNeAt.none_tuple p hu' | exact RcNeAt.bool_tuple _ p hu' | exact RcNeAt.int_tuple _ _ p hu' | exact RcNeAt.str_tuple _ _ p hu'
      | non => cases fy
      | bl _ => cases fy
      | int _ => cases fy
      | str _ => cases fy
  | false =>
    cases fy : flatP y with
    | true =>
      rw [eq_cf fx fy]
      cases x with
      | lst xs =>
        obtain ⟨l, its, vs, rfl, rfl, p, _⟩ := lst_at I tx rx
        rcases fl_cases ty fy ry with rfl | ⟨_, rfl⟩ | ⟨_, _, rfl⟩ | ⟨_, _, rfl⟩ <;> refine ⟨?_, ?_⟩ <;>
          first | exact RcAt.list_none p hu' | exact RcAt.list_bool _ p hu' | exact RcAt.list_int _ _ p hu' | exact RcAt.list_str _ _ p hu' | exact RcNeAt.list_none p hu' | exact RcNeAt.list_bool _ p hu' | exact RcNeAt.list_int _ _ p hu' | exact RcNeAt.list_str _ _ p hu'
      | tup xs =>
        obtain ⟨l, its, vs, rfl, rfl, p, _⟩ := tup_at I tx rx
        rcases fl_cases ty fy ry with rfl | ⟨_, rfl⟩ | ⟨_, _, rfl⟩ | ⟨_, _, rfl⟩ <;> refine ⟨?_, ?_⟩ <;>
          first | exact RcAt.tuple_none p hu' | exact RcAt.tuple_bool _ p hu' | exact RcAt.tuple_int _ _ p hu' | exact RcAt.tuple_str _ _ p hu' | exact RcNeAt.tuple_none p hu' | exact RcNeAt.tuple_bool _ p hu' | exact RcNeAt.tuple_int _ _ p hu' | exact RcNeAt.tuple_str _ _ p hu'
      | non => cases fx
      | bl _ => cases fx
      | int _ => cases fx
      | str _ => cases fx
    | false =>
      have items : ∀ {xs ys : List P} {vs ws : List V} {is js : List Value}, A.units + 1 + min (deepL xs) (deepL ys) < cLine → TdL X.K q H J xs vs → TdL X.K q H J ys ws → Vals vs is → Vals ws js →
          ∀ j (h1 : j < is.toArray.size) (h2 : j < js.toArray.size), EqAt A.in1 s is.toArray[j] js.toArray[j] (eqNth xs ys j) := fun {xs ys vs ws is js} hd t1 t2 r1 r2 j h1 h2 => by
        have l1 : j < vs.length := by rw [r1.length]; simpa using h1
        have l2 : j < ws.length := by rw [r2.length]; simpa using h2
        obtain ⟨v1, e1, d1⟩ := nth_v t1 l1
        obtain ⟨v2, e2, d2⟩ := nth_v t2 l2
        obtain ⟨u1, g1, k1⟩ := r1.get e1
        obtain ⟨u2, g2, k2⟩ := r2.get e2
        have q1 : is.toArray[j] = u1 := by simpa [List.getElem?_eq_some_iff] using (List.getElem?_eq_some_iff.mp g1).2
        have q2 : js.toArray[j] = u2 := by simpa [List.getElem?_eq_some_iff] using (List.getElem?_eq_some_iff.mp g2).2
        rw [q1, q2]
        have p1 := nth_d (xs := xs) (j := j) (by rw [t1.len]; exact l1)
        have p2 := nth_d (xs := ys) (j := j) (by rw [t2.len]; exact l2)
        exact eq_at I _ _ _ _ _ _ _ A.in1 (Nat.le_refl _) d1 d2 k1 k2 (by show A.units + 1 + _ < _; omega)
      cases x with
      | non => cases fx
      | bl _ => cases fx
      | int _ => cases fx
      | str _ => cases fx
      | lst xs =>
        cases y with
        | non => cases fy
        | bl _ => cases fy
        | int _ => cases fy
        | str _ => cases fy
        | tup ys =>
          obtain ⟨l, is, vs, rfl, rfl, p, _⟩ := lst_at I tx rx
          obtain ⟨m, js, ws, rfl, rfl, p', _⟩ := tup_at I ty ry
          exact ⟨RcAt.list_tuple p p' hu', RcNeAt.list_tuple p p' hu'⟩
        | lst ys =>
          obtain ⟨l, is, vs, rfl, rfl, p, t1, r1⟩ := lst_at I tx rx
          obtain ⟨m, js, ws, rfl, rfl, p', t2, r2⟩ := lst_at I ty ry
          have n1 : is.toArray.size = xs.length := by rw [t1.len, r1.length]; simp
          have n2 : js.toArray.size = ys.length := by rw [t2.len, r2.length]; simp
          have it := items (by simp [deep] at hu; omega) t1 t2 r1 r2
          rw [eqP]
          by_cases hsz : xs.length = ys.length
          · rw [← eqL_same hsz, ← n1]
            exact ⟨RcAt.lists p p' (by rw [n1, n2, hsz]) hu' it, RcNeAt.lists p p' (by rw [n1, n2, hsz]) hu' it⟩
          · rw [eqL_other hsz]
            have hz : (is.toArray.size != js.toArray.size) = true := by rw [n1, n2]; simpa using hsz
            exact ⟨RcAt.lists_lengths p p' hz hu', RcNeAt.lists_lengths p p' hz hu'⟩
      | tup xs =>
        cases y with
        | non => cases fy
        | bl _ => cases fy
        | int _ => cases fy
        | str _ => cases fy
        | lst ys =>
          obtain ⟨l, is, vs, rfl, rfl, p, _⟩ := tup_at I tx rx
          obtain ⟨m, js, ws, rfl, rfl, p', _⟩ := lst_at I ty ry
          exact ⟨RcAt.tuple_list p p' hu', RcNeAt.tuple_list p p' hu'⟩
        | tup ys =>
          obtain ⟨l, is, vs, rfl, rfl, p, t1, r1⟩ := tup_at I tx rx
          obtain ⟨m, js, ws, rfl, rfl, p', t2, r2⟩ := tup_at I ty ry
          have n1 : is.toArray.size = xs.length := by rw [t1.len, r1.length]; simp
          have n2 : js.toArray.size = ys.length := by rw [t2.len, r2.length]; simp
          have it := items (by simp [deep] at hu; omega) t1 t2 r1 r2
          rw [eqP]
          rw [← eqL_range, ← n1, ← n2]
          exact ⟨RcAt.tuples p p' hu' it, RcNeAt.tuples p p' hu' it⟩
end
def rEq (K : PySem.W.Frag) : R2 := fun x y H Q => ∃ (J : Addr → Prop) (d e : P), Td K true H J d x ∧ Td K true H J e y ∧ min (deep d) (deep e) ≤ 60 ∧ Q (.bl (eqP d e)) H
def rNe (K : PySem.W.Frag) : R2 := fun x y H Q => ∃ (J : Addr → Prop) (d e : P), Td K true H J d x ∧ Td K true H J e y ∧ min (deep d) (deep e) ≤ 60 ∧ Q (.bl (!eqP d e)) H
theorem op_eqP {X : Cx} (hu : X.A.units + 64 < cLine) : OpR X (compareOp .Eq) (rEq X.K) := by
  intro pins s σ H x y v u Q I rx ry h
  obtain ⟨J, d, e, td, te, hd, q⟩ := h
  exact (rc_at (A := X.A) I (by omega) td te rx ry).1 _ _ _ _ ⟨.bl _, H, I, rfl, q⟩
theorem op_neP {X : Cx} (hu : X.A.units + 64 < cLine) : OpR X (compareOp .NotEq) (rNe X.K) := by
  intro pins s σ H x y v u Q I rx ry h
  obtain ⟨J, d, e, td, te, hd, q⟩ := h
  exact (rc_at (A := X.A) I (by omega) td te rx ry).2 _ _ _ _ ⟨.bl _, H, I, rfl, q⟩
end Dz
namespace Dz
open PySem PySem.Spec PyProof.Rows L2
/-! ### judgements -/
theorem PEi {X : Cx} {e : Expr} {t t' : TE} (h : PE X e t) (k : ∀ σ H Q, t' σ H Q → t σ H Q) : PE X e t' := ⟨fun pins s σ H Q I q => h.run pins s σ H Q I (k σ H Q q)⟩
theorem PTi {X : Cx} {e : Expr} {t t' : TT} (h : PT X e t) (k : ∀ σ H Q, t' σ H Q → t σ H Q) : PT X e t' := ⟨fun pins s σ H Q I q => h.run pins s σ H Q I (k σ H Q q)⟩
theorem PAi {X : Cx} {es : List Expr} {t t' : TA} (h : PA X es t) (k : ∀ σ H Q, t' σ H Q → t σ H Q) : PA X es t' := ⟨fun pos pins s σ H Q I q => h.run pos pins s σ H Q I (k σ H Q q)⟩
theorem PSi {X : Cx} {st : Stmt} {t t' : TS} (h : PS X st t) (k : ∀ D σ H, t' D σ H → t D σ H) : PS X st t' := ⟨fun pins s σ H D I q => h.run pins s σ H D I (k D σ H q)⟩
theorem PSsi {X : Cx} {st : List Stmt} {t t' : TS} (h : PSs X st t) (k : ∀ D σ H, t' D σ H → t D σ H) : PSs X st t' := ⟨fun pins s σ H D I q => h.run pins s σ H D I (k D σ H q)⟩
theorem OpR.or {X : Cx} {f : Value → Value → Sem Value} {r r' : R2} (h : OpR X f r) (h' : OpR X f r') : OpR X f (fun x y H Q => r x y H Q ∨ r' x y H Q) := fun pins s σ H x y v u Q I rx ry q => by
  rcases q with q | q
  · exact h pins s σ H x y v u Q I rx ry q
  · exact h' pins s σ H x y v u Q I rx ry q
theorem OpR.imp {X : Cx} {f : Value → Value → Sem Value} {r r' : R2} (h : OpR X f r) (k : ∀ x y H Q, r' x y H Q → r x y H Q) : OpR X f r' := fun pins s σ H x y v u Q I rx ry q => h pins s σ H x y v u Q I rx ry (k x y H Q q)
theorem CallR.or {X : Cx} {f : Value} {r r' : List V → Hp → VK → Prop} (h : CallR X f r) (h' : CallR X f r') : CallR X f (fun x H Q => r x H Q ∨ r' x H Q) := fun pins s σ H x v Q I rx q => by
  rcases q with q | q
  · exact h pins s σ H x v Q I rx q
  · exact h' pins s σ H x v Q I rx q
theorem CallR.imp {X : Cx} {f : Value} {r r' : List V → Hp → VK → Prop} (h : CallR X f r) (k : ∀ x H Q, r' x H Q → r x H Q) : CallR X f r' := fun pins s σ H x v Q I rx q => h pins s σ H x v Q I rx (k x H Q q)

/-- an exception that leaves -/
def XV (K : PySem.W.Frag) (mg : Str → Option Value) (H : Hp) (w : Wo) (c : Str) (fs : List P) (cls : Value) (dx : Option Addr) : Prop :=
  mg c = some cls ∧ ∃ d ns vs, dx = some d ∧ H d = some (.xd (List.zip ns vs)) ∧ ns.length = vs.length ∧ TdL K false H w.I fs vs
/-- where a def's body stands: its entry, its wish about exceptions -/
structure Env where
  B : Ba
  E : XK
section
variable (X : Cx) (G : Env)
/-- what is wanted of a result -/
def Post {α β : Type} (R : Hp → Wo → α → β → Prop) (σ : L2.St) (w : Wo) (H : Hp) (r : Res α) (Q : β → Hp → Prop) : Prop :=
  match r with
  | .ok a s' => ∀ b w' H', Mono w H w' H' → Wd X.K X.mg G.B w' σ s' H' → R H' w' a b → Q b H'
  | .ex c fs => ∀ cls dx w' H', Ext G.B.w G.B.H w' H' → Sound w' H' → XV X.K X.mg H' w' c fs cls dx → G.E cls dx H'
  | .bad => False
def RD : Hp → Wo → D → V → Prop := fun H w d v => Vd X.K H w d v
def RA : Hp → Wo → List D → List V → Prop := fun H w d v => VdL X.K H w d v
def RB : Hp → Wo → Bool → Bool → Prop := fun _ _ a b => a = b
def tE (f : Ev) : TE := fun σ H Q => ∃ w s, Wd X.K X.mg G.B w σ s H ∧ Post X G (RD X) σ w H (f s) Q
def tT (f : Sta → Res Bool) : TT := fun σ H Q => ∃ w s, Wd X.K X.mg G.B w σ s H ∧ Post X G RB σ w H (f s) Q
def tA (f : Sta → Res (List D)) : TA := fun σ H Q => ∃ w s, Wd X.K X.mg G.B w σ s H ∧ Post X G (RA X) σ w H (f s) Q
def DE (e : Expr) (f : Ev) : Prop := PE X e (tE X G f)
def DT (e : Expr) (f : Sta → Res Bool) : Prop := PT X e (tT X G f)
def DA (es : List Expr) (f : Sta → Res (List D)) : Prop := PA X es (tA X G f)
end
/-! ### in a row -/
def bnd {α β : Type} (f : Sta → Res α) (g : α → Sta → Res β) : Sta → Res β := fun s => match f s with
  | .ok a s' => g a s'
  | .ex c fs => .ex c fs
  | .bad => .bad
section
variable {X : Cx} {G : Env} {σ : L2.St} {w w1 : Wo} {H H1 : Hp} {s s1 : Sta}
theorem Post.at {α β : Type} {R : Hp → Wo → α → β → Prop} {r : Res α} {Q : β → Hp → Prop} (m : Mono w H w1 H1) (h : Post X G R σ w H r Q) : Post X G R σ w1 H1 r Q := by
  cases r with
  | ok a s' => exact fun b w' H' m' => h b w' H' (m.trans m')
  | ex c fs => exact h
  | bad => exact h
/-- from f, then g: what f's value is to give -/
theorem Post.bind {α β γ δ : Type} {R : Hp → Wo → α → γ → Prop} {R' : Hp → Wo → β → δ → Prop} {f : Sta → Res α} {g : α → Sta → Res β} {Q : δ → Hp → Prop} {Q1 : γ → Hp → Prop} (h : Post X G R' σ w H (Dz.bnd f g s) Q)
    (k : ∀ a s1 b w1 H1, Mono w H w1 H1 → Wd X.K X.mg G.B w1 σ s1 H1 → R H1 w1 a b → Post X G R' σ w1 H1 (g a s1) Q → Q1 b H1) : Post X G R σ w H (f s) Q1 := by
  unfold Dz.bnd at h
  cases e : f s with
  | ok a s' =>
    rw [e] at h
    exact fun b w' H' m W r => k a s' b w' H' m W r (h.at m)
  | ex c fs => rw [e] at h; exact h
  | bad => rw [e] at h; exact h
theorem Post.imp {α β : Type} {R : Hp → Wo → α → β → Prop} {r : Res α} {Q Q' : β → Hp → Prop} (h : Post X G R σ w H r Q) (k : ∀ a s1 b w1 H1, r = .ok a s1 → Mono w H w1 H1 → Wd X.K X.mg G.B w1 σ s1 H1 → R H1 w1 a b → Q b H1 → Q' b H1) : Post X G R σ w H r Q' := by
  cases r with
  | ok a s' => exact fun b w' H' m W r => k a s' b w' H' rfl m W r (h b w' H' m W r)
  | ex c fs => exact h
  | bad => exact h
/-- a value that is there -/
theorem Post.here {α β : Type} {R : Hp → Wo → α → β → Prop} {a : α} {b : β} {Q : β → Hp → Prop} (W : Wd X.K X.mg G.B w σ s H) (r : R H w a b) (h : Post X G R σ w H (.ok a s) Q) : Q b H := h b w H .refl W r

/-! ### names and constants -/
/-- reading a local: a list or dict of its own is known from then on, and not changed any more -/
def rd (i : Nat) : Ev := fun s => match s.sl[i]? with
  | some (.v d) => .ok d s
  | some (.lin (.lst xs)) => .ok (.p (.lst xs)) ⟨s.sl.set i (.v (.p (.lst xs))), s.st⟩
  | some (.lin (.dic kvs)) => .ok (.dic kvs) ⟨s.sl.set i (.v (.dic kvs)), s.st⟩
  | some (.lin (.dct kvs)) => .ok (.dct kvs) ⟨s.sl.set i (.v (.dct kvs)), s.st⟩
  | _ => .bad
def cst (d : D) : Ev := fun s => .ok d s

theorem Sound.add {a : Addr} (h : Sound w H) (n : a ∉ w.ρ) (t : H a ≠ none) : Sound (w.add a) H where
  nd := h.nd
  rt := h.rt
  ri := fun b hb z => by
    rcases z with z | rfl
    · exact h.ri b hb z
    · exact n hb
  it := fun b z => by
    rcases z with z | rfl
    · exact h.it b z
    · exact t
theorem Mono.add {a : Addr} : Mono w H (w.add a) H := ⟨.sub fun _ h => .inl h, fun _ _ e => e⟩
theorem isLin_v {d : D} : isLin (some (.v d)) = false := rfl
/-- what a slot holds is put in another way, the address as it was -/
theorem Wd.know {K : PySem.W.Frag} {mg : Str → Option Value} {B : Ba} {i : Nat} {m : Lin} {d : D} (W : Wd K mg B w σ s H) (e : s.sl[i]? = some (.lin m)) (hd : ∀ a, LOk K H w.I a m → ∃ v, (.ref a : V) = v ∧ Vd K H (w.add a) d v) :
    ∃ v, σ[i]? = some (some v) ∧ ∃ w', Mono w H w' H ∧ Wd K mg B w' σ ⟨s.sl.set i (.v d), s.st⟩ H ∧ Vd K H w' d v := by
  obtain ⟨a, ea, l, n1, n2, n3⟩ := W.sl i _ e
  obtain ⟨v, rfl, vd⟩ := hd a l
  have il : i < s.sl.length := (List.getElem?_eq_some_iff.mp e).1
  refine ⟨_, ea, w.add a, .add, ⟨?_, W.snd.add n1 l.there, W.sb, W.sto.mono (fun _ _ e => e) .add rfl, fun j x ej => ?_, by show (s.sl.set i _).length ≤ _; rw [List.length_set]; exact W.len, fun p q pq hp hq => ?_⟩, vd⟩
  · refine ⟨W.ext.keep, W.ext.pre, W.ext.newr, fun b hb => .inl (W.ext.imm b hb), fun b hb => ?_, W.ext.there, W.ext.tup⟩
    rcases hb with hb | rfl
    · exact W.ext.newi b hb
    · exact .inr n3
  · rw [List.getElem?_set] at ej
    split at ej
    · rename_i eq
      subst eq
      cases ej
      exact ⟨_, ea, vd⟩
    · rename_i nij
      have h := W.sl j x ej
      cases x with
      | un => trivial
      | v d => obtain ⟨v, e1, h1⟩ := h; exact ⟨v, e1, h1.mono .add⟩
      | lin l' =>
        obtain ⟨b, e1, h1, h2, h3, h4⟩ := h
        refine ⟨b, e1, h1.mono (fun _ e => e) (.sub fun _ h => .inl h), h2, fun z => ?_, h4⟩
        rcases z with z | rfl
        · exact h3 z
        · exact W.two i j nij (by rw [e]; rfl) (by rw [ej]; rfl) (ea.trans e1.symm)
  · have other : ∀ p, isLin (s.sl.set i (.v d))[p]? = true → isLin s.sl[p]? = true := fun p hp => by
      rw [List.getElem?_set] at hp
      split at hp
      · cases hp
      · exact hp
    exact W.two p q pq (other p hp) (other q hq)
theorem de_rd {i : Nat} {x : Str} {pos : Pos} (hN : X.N[i]? = some x := by rfl) (hv : Vis X.env.scope x := by first | exact Or.inl rfl | exact Or.inr (Or.inl rfl) | exact Or.inr (Or.inr rfl)) (hd : (x == ("__debug__" : Str)) = false := by decide)
    (hcd : (x == ("__classdict__" : Str)) = false := by decide) : DE X G (.Name x pos) (rd i) := by
  refine PEi (pe_var (i := i) hN hv hd hcd) fun σ H Q ⟨w, s, W, h⟩ => ?_
  unfold rd at h
  split at h
  · rename_i d e
    obtain ⟨v, e1, h1⟩ := W.sl i _ e
    exact ⟨v, e1, h v w H .refl W h1⟩
  · rename_i xs e
    obtain ⟨v, e1, w', m, W', vd⟩ := W.know (d := .p (.lst xs)) e fun a l => by
      cases l with
      | lst h t => exact ⟨_, rfl, .p (.lst h (.inr rfl) (t.mono (.sub fun _ h => .inl h)))⟩
    exact ⟨v, e1, h v w' H m W' vd⟩
  · rename_i xs e
    obtain ⟨v, e1, w', m, W', vd⟩ := W.know (d := .dic xs) e fun a l => by
      cases l with
      | dic h t => exact ⟨_, rfl, .dic (.inl h) (.inr rfl) (t.mono (.sub fun _ h => .inl h))⟩
    exact ⟨v, e1, h v w' H m W' vd⟩
  · rename_i xs e
    obtain ⟨v, e1, w', m, W', vd⟩ := W.know (d := .dct xs) e fun a l => by
      cases l with
      | dct h t => exact ⟨_, rfl, .dct (.inl h) (.inr rfl) (t.mono (.sub fun _ h => .inl h))⟩
    exact ⟨v, e1, h v w' H m W' vd⟩
  · exact h.elim
theorem de_cst {e : Expr} {v : V} {d : P} (he : PE X e (tC v)) (hd : ∀ H J, Td X.K false H J d v) : DE X G e (cst (.p d)) :=
  PEi he fun σ H Q ⟨w, s, W, h⟩ => h v w H .refl W (.p (hd H _))
theorem de_int {i : Int} {j} {pos : Pos} : DE X G (.Constant (.int i) j pos) (cst (.p (.int i))) := de_cst pe_int fun _ _ => .int _
theorem de_bl {b : Bool} {j} {pos : Pos} : DE X G (.Constant (.bool b) j pos) (cst (.p (.bl b))) := de_cst pe_bl fun _ _ => .bl _
theorem de_non {j} {pos : Pos} : DE X G (.Constant .none j pos) (cst (.p .non)) := de_cst pe_non fun _ _ => .non
theorem de_str {x : Str} {j} {pos : Pos} : DE X G (.Constant (.str x) j pos) (cst (.p (.str x))) := de_cst pe_str fun _ _ => .str _
/-- a module's constant -/
structure Cst (K : PySem.W.Frag) (mg : Str → Option Value) (x : Str) (d : D) : Prop where
  at_ : ∃ u v, mg x = some u ∧ RelV v u ∧ ∀ H w, Vd K H w d v
theorem de_glob {x : Str} {d : D} {pos : Pos} (c : Cst X.K X.mg x d) (hg : Gl X x) (hd : (x == ("__debug__" : Str)) = false := by decide) : DE X G (.Name x pos) (cst d) := by
  obtain ⟨u, v, hm, r, t⟩ := c.at_
  exact PEi (pe_glob hg hm r hd) fun σ H Q ⟨w, s, W, h⟩ => h v w H .refl W (t _ _)

/-! ### rules by values -/
/-- what a rule of one value asks -/
def U1 (X : Cx) (G : Env) (r : V → Hp → VK → Prop) (g : D → Ev) : Prop := ∀ σ w s H d v Q, Wd X.K X.mg G.B w σ s H → Vd X.K H w d v → Post X G (RD X) σ w H (g d s) Q → r v H Q
def U2 (X : Cx) (G : Env) (r : R2) (g : D → D → Ev) : Prop := ∀ σ w s H d e v u Q, Wd X.K X.mg G.B w σ s H → Vd X.K H w d v → Vd X.K H w e u → Post X G (RD X) σ w H (g d e s) Q → r v u H Q
def UA (X : Cx) (G : Env) (r : List V → Hp → VK → Prop) (g : List D → Ev) : Prop := ∀ σ w s H ds vs Q, Wd X.K X.mg G.B w σ s H → VdL X.K H w ds vs → Post X G (RD X) σ w H (g ds s) Q → r vs H Q
def bnd2 (f g : Ev) (k : D → D → Ev) : Ev := bnd f fun a => bnd g fun b => k a b
theorem de_op {op : Operator} {r : R2} {k : D → D → Ev} {a b : Expr} {f g : Ev} {pos : Pos} (ho : OpR X (binaryOp op) r) (hk : U2 X G r k) (ha : DE X G a f) (hb : DE X G b g) : DE X G (.BinOp a op b pos) (bnd2 f g k) :=
  PEi (pe_op ho ha hb) fun σ H Q ⟨w, s, W, h⟩ => ⟨w, s, W, h.bind fun a s1 v w1 H1 m1 W1 r1 h1 => ⟨w1, s1, W1, h1.bind fun b s2 u w2 H2 m2 W2 r2 h2 => hk _ _ _ _ _ _ _ _ _ W2 (r1.mono m2) r2 h2⟩⟩
theorem de_cmp {op : CmpOp} {r : R2} {k : D → D → Ev} {a b : Expr} {f g : Ev} {pos : Pos} (ho : OpR X (compareOp op) r) (hm : behindInMarks op b = false) (hk : U2 X G r k) (ha : DE X G a f) (hb : DE X G b g) : DE X G (.Compare a [op] [b] pos) (bnd2 f g k) :=
  PEi (pe_cmpR ho ha hb hm) fun σ H Q ⟨w, s, W, h⟩ => ⟨w, s, W, h.bind fun a s1 v w1 H1 m1 W1 r1 h1 => ⟨w1, s1, W1, h1.bind fun b s2 u w2 H2 m2 W2 r2 h2 => hk _ _ _ _ _ _ _ _ _ W2 (r1.mono m2) r2 h2⟩⟩
end
end Dz
namespace Dz
open PySem PySem.Spec PyProof.Rows L2
section
variable {X : Cx} {G : Env} {σ : L2.St} {w w1 : Wo} {H H1 : Hp} {s s1 : Sta}
theorem TdL.app {K : PySem.W.Frag} {J : Addr → Prop} : ∀ {xs ys : List P} {vs us : List V}, TdL K false H J xs vs → TdL K false H J ys us → TdL K false H J (xs ++ ys) (vs ++ us)
  | _, _, _, _, .nil, h => h
  | _, _, _, _, .cons a t, h => .cons a (TdL.app t h)
theorem TdL.rep {K : PySem.W.Frag} {J : Addr → Prop} {xs : List P} {vs : List V} (h : TdL K false H J xs vs) : ∀ n : Nat, TdL K false H J (List.replicate n xs).flatten (List.replicate n vs).flatten
  | 0 => .nil
  | n + 1 => by
    rw [List.replicate_succ, List.replicate_succ, List.flatten_cons, List.flatten_cons]
    exact h.app (TdL.rep h n)
theorem TdL.at {K : PySem.W.Frag} {J : Addr → Prop} : ∀ {xs : List P} {vs : List V} {i : Nat} {x : P}, TdL K false H J xs vs → xs[i]? = some x → ∃ v, vs[i]? = some v ∧ Td K false H J x v
  | _, _, 0, _, .cons a t, e => by simp at e; subst e; exact ⟨_, by simp, a⟩
  | _, _, i + 1, _, .cons a t, e => by simpa using TdL.at (i := i) t (by simpa using e)
  | _, _, _, _, .nil, e => by simp at e
theorem TdL.take {K : PySem.W.Frag} {J : Addr → Prop} : ∀ {xs : List P} {vs : List V} (n : Nat), TdL K false H J xs vs → TdL K false H J (xs.take n) (vs.take n)
  | _, _, 0, _ => by simp; exact .nil
  | _, _, n + 1, .nil => by simp; exact .nil
  | _, _, n + 1, .cons a t => by simp; exact .cons a (TdL.take n t)
theorem TdL.drop {K : PySem.W.Frag} {J : Addr → Prop} : ∀ {xs : List P} {vs : List V} (n : Nat), TdL K false H J xs vs → TdL K false H J (xs.drop n) (vs.drop n)
  | _, _, 0, h => by simpa using h
  | _, _, n + 1, .nil => by simp; exact .nil
  | _, _, n + 1, .cons a t => by simpa using TdL.drop n t
/-- something new -/
theorem Post.new {p : Addr} {o : HO} {d : D} {Q : VK} (W : Wd X.K X.mg G.B w σ s H) (np : H p = none) (hd : Mono w H (w.add p) (upd H p o) → Vd X.K (upd H p o) (w.add p) d (.ref p)) (h : Post X G (RD X) σ w H (.ok d s) Q) : Q (.ref p) (upd H p o) := by
  have m : Mono w H (w.add p) (upd H p o) := (Ext.fresh np).mono W.snd
  exact h _ _ _ m (W.fresh np) (hd m)
theorem Post.newT {p : Addr} {xs : List P} {vs : List V} {Q : VK} (W : Wd X.K X.mg G.B w σ s H) (t : TdL X.K false H w.I xs vs) (np : H p = none) (h : Post X G (RD X) σ w H (.ok (.p (.tup xs)) s) Q) : Q (.ref p) (upd H p (.tup vs)) :=
  Post.new W np (fun m => .p (.tup upd_same (t.mono m.imm))) h
theorem Post.newL {p : Addr} {xs : List P} {vs : List V} {Q : VK} (W : Wd X.K X.mg G.B w σ s H) (t : TdL X.K false H w.I xs vs) (np : H p = none) (h : Post X G (RD X) σ w H (.ok (.p (.lst xs)) s) Q) : Q (.ref p) (upd H p (.lst vs)) :=
  Post.new W np (fun m => .p (.lst upd_same (.inr rfl) (t.mono m.imm))) h
/-! ### operators -/
def bad1 : Ev := fun _ => .bad
/-- d, if the test holds -/
def okIf (c : Bool) (d : D) : Ev := fun s => if c = true then .ok d s else .bad
def addD : D → D → Ev
  | .p (.int i), .p (.int j) => cst (.p (.int (i + j)))
  | .p (.str x), .p (.str y) => okIf (decide (x.length + y.length ≤ sizeLine)) (.p (.str (x ++ y)))
  | .p (.tup xs), .p (.tup ys) => okIf (decide (xs.length + ys.length ≤ sizeLine)) (.p (.tup (xs ++ ys)))
  | .p (.lst xs), .p (.lst ys) => okIf (decide (xs.length + ys.length ≤ sizeLine)) (.p (.lst (xs ++ ys)))
  | _, _ => bad1
def rAddI : R2 := rI0 fun i j => .int (i + j)
def rAddS : R2 := fun x y H Q => ∃ i j, x = .str i ∧ y = .str j ∧ i.length + j.length ≤ sizeLine ∧ Q (.str (i ++ j)) H
def rAddD (K : PySem.W.Frag) : R2 := fun x y H Q => (rAddI x y H Q ∨ rAddS x y H Q) ∨ (rCatA K x y H Q ∨ rCat x y H Q)
theorem op_addD : OpR X (binaryOp .Add) (rAddD X.K) := (op_add.or op_add_str).or (op_catA.or op_cat)
theorem okIf_post {c : Bool} {d : D} {Q : VK} (h : Post X G (RD X) σ w H (okIf c d s) Q) : c = true ∧ Post X G (RD X) σ w H (.ok d s) Q := by
  unfold okIf at h
  split at h
  · rename_i e; exact ⟨e, h⟩
  · exact h.elim
theorem Td.lstAt {K : PySem.W.Frag} {J : Addr → Prop} {xs : List P} {v : V} (t : Td K false H J (.lst xs) v) : ∃ a vs, v = .ref a ∧ H a = some (.lst vs) ∧ TdL K false H J xs vs := by
  cases t with
  | lst h _ t => exact ⟨_, _, rfl, h, t⟩
theorem u_add : U2 X G (rAddD X.K) addD := by
  intro σ w s H d e v u Q W hd he h
  cases hd with
  | p td =>
    cases he with
    | p te =>
      cases td with
      | int i =>
        cases te with
        | int j => exact .inl (.inl ⟨i, j, rfl, rfl, Post.here W (.p (.int _)) h⟩)
        | _ => exact h.elim
      | str i =>
        cases te with
        | str j =>
          obtain ⟨c, h⟩ := okIf_post h
          exact .inl (.inr ⟨i, j, rfl, rfl, of_decide_eq_true c, Post.here W (.p (.str _)) h⟩)
        | _ => exact h.elim
      | non => exact h.elim
      | bl _ => cases te <;> exact h.elim
      | lst h1 h2 t1 =>
        cases te with
        | lst h3 h4 t2 =>
          obtain ⟨c, h⟩ := okIf_post h
          have c := of_decide_eq_true c
          refine .inr (.inr ⟨_, _, _, _, rfl, rfl, h1, h3, by rw [← t1.len, ← t2.len]; exact c, fun p np => Post.newL W (t1.app t2) np h⟩)
        | _ => exact h.elim
      | @tup a1 xs vs h1 t1 =>
        have td : Td X.K false H w.I (.tup xs) (.ref a1) := .tup h1 t1
        cases e1 : te with
        | tup h3 t2 =>
          obtain ⟨c, h⟩ := okIf_post h
          have c := of_decide_eq_true c
          refine .inr (.inl ⟨_, _, _, _, rfl, rfl, .of h1, .of h3, by rw [← t1.len, ← t2.len]; exact c, fun z => ?_, fun _ z => ?_, fun _ _ p np => Post.newT W (t1.app t2) np h⟩)
          · subst z; cases t1; exact Post.here W (.p te) h
          · subst z; cases t2; rw [List.append_nil] at h; exact Post.here W (.p td) h
        | tupK hq _ _ => cases hq
        | _ => exact h.elim
      | tupK hq _ _ => cases hq
    | _ => cases td <;> exact h.elim
  | _ => exact h.elim
theorem de_add {a b : Expr} {f g : Ev} {pos : Pos} (ha : DE X G a f) (hb : DE X G b g) : DE X G (.BinOp a .Add b pos) (bnd2 f g addD) := de_op op_addD u_add ha hb

/-! ### ints -/
def intOp (c : Int → Int → Bool) (g : Int → Int → P) : D → D → Ev
  | .p (.int i), .p (.int j) => okIf (c i j) (.p (g i j))
  | _, _ => bad1
theorem u_int {C : Int → Int → Prop} {gv : Int → Int → V} {c : Int → Int → Bool} {g : Int → Int → P} (hc : ∀ i j, c i j = true → C i j) (hg : ∀ i j H J, Td X.K false H J (g i j) (gv i j)) : U2 X G (rI C gv) (intOp c g) := by
  intro σ w s H d e v u Q W hd he h
  cases hd with
  | p td =>
    cases he with
    | p te =>
      cases td with
      | int i =>
        cases te with
        | int j =>
          obtain ⟨e, h⟩ := okIf_post h
          exact ⟨i, j, rfl, rfl, hc _ _ e, Post.here W (.p (hg _ _ _ _)) h⟩
        | _ => exact h.elim
      | _ => cases te <;> exact h.elim
    | _ => cases td <;> exact h.elim
  | _ => exact h.elim
theorem u_int0 {gv : Int → Int → V} {g : Int → Int → P} (hg : ∀ i j H J, Td X.K false H J (g i j) (gv i j)) : U2 X G (rI0 gv) (intOp (fun _ _ => true) g) := fun σ w s H d e v u Q W hd he h => by
  obtain ⟨i, j, e1, e2, _, q⟩ := u_int (C := fun _ _ => True) (fun _ _ _ => trivial) hg σ w s H d e v u Q W hd he h
  exact ⟨i, j, e1, e2, q⟩
def subD : D → D → Ev := intOp (fun _ _ => true) fun i j => .int (i - j)
def cMul (i j : Int) : Bool := (decide (-(2 ^ 64) < i) && decide (i < 2 ^ 64)) || (decide (-(2 ^ 64) < j) && decide (j < 2 ^ 64))
def fdivD : D → D → Ev := intOp (fun _ j => decide (j ≠ 0) && decide (j.natAbs < 1073741824)) fun i j => .int (i.fdiv j)
def modD : D → D → Ev := intOp (fun _ j => decide (j ≠ 0)) fun i j => .int (i.fmod j)
def cPow (i j : Int) : Bool := decide (0 ≤ j) && decide (j ≤ 1000000) && decide (i.natAbs < 2 ^ 64)
def powD : D → D → Ev := intOp cPow fun i j => .int (i ^ j.toNat)
def shlD : D → D → Ev := intOp cPow fun i j => .int (i * 2 ^ j.toNat)
theorem de_sub {a b : Expr} {f g : Ev} {pos : Pos} (ha : DE X G a f) (hb : DE X G b g) : DE X G (.BinOp a .Sub b pos) (bnd2 f g subD) := de_op op_sub (u_int0 fun _ _ _ _ => .int _) ha hb
theorem de_fdiv {a b : Expr} {f g : Ev} {pos : Pos} (ha : DE X G a f) (hb : DE X G b g) : DE X G (.BinOp a .FloorDiv b pos) (bnd2 f g fdivD) := de_op op_fdivN (u_int (fun i j h => by simpa [CDivN] using h) fun _ _ _ _ => .int _) ha hb
theorem de_mod {a b : Expr} {f g : Ev} {pos : Pos} (ha : DE X G a f) (hb : DE X G b g) : DE X G (.BinOp a .Mod b pos) (bnd2 f g modD) := de_op op_modN (u_int (fun i j h => by simpa using h) fun _ _ _ _ => .int _) ha hb
theorem cPow_ok {i j : Int} (h : cPow i j = true) : CPow i j := by simp [cPow] at h; exact ⟨h.1.1, h.1.2, h.2⟩
theorem de_pow {a b : Expr} {f g : Ev} {pos : Pos} (ha : DE X G a f) (hb : DE X G b g) : DE X G (.BinOp a .Pow b pos) (bnd2 f g powD) := de_op op_pow (u_int (fun i j h => cPow_ok h) fun _ _ _ _ => .int _) ha hb
theorem de_shl {a b : Expr} {f g : Ev} {pos : Pos} (ha : DE X G a f) (hb : DE X G b g) : DE X G (.BinOp a .LShift b pos) (bnd2 f g shlD) := de_op op_shl (u_int (fun i j h => cPow_ok h) fun _ _ _ _ => .int _) ha hb

/-- a tuple times an int from 1 on -/
def rRepP (K : PySem.W.Frag) : R2 := fun x y H Q => ∃ l k xs, x = .ref l ∧ y = .int k ∧ SqT K H l xs ∧ xs ≠ [] ∧ 1 ≤ k ∧ xs.length * k.toNat ≤ sizeLine ∧ (k = 1 → Q (.ref l) H) ∧ (2 ≤ k → ∀ p, H p = none → Q (.ref p) (upd H p (.tup (List.replicate k.toNat xs).flatten)))
theorem tup_mul1 (l : Addr) (items : Array Value) (n : Nat) (dd : Option Addr) (sl : Array (Option Value)) (u : Tok) :
    Meets (Builtin.«tuple.__mul__» ⟨[.ref l, .int 1 u], []⟩) (fun _ R s => s.heap.get? l = some { cls := .type "tuple", dict := dd, data := .seq items n, slots := sl } ∧ R (.ok (.ret (Value.ref l))) s) :=
  .of_wp fun prog w A R s h => by
    obtain ⟨hp, g, d, tk, os⟩ := s
    obtain ⟨hl, h⟩ := h
    have f1 := AutoSeq1.idx_int
    have z0 : (decide ((1 : Int) < -(2 ^ 63)) || decide ((1 : Int) ≥ 2 ^ 63)) = false := by decide
    have z1 : (items.isEmpty || (1 : Int) == 1) = true := by simp
    wp_walk using wpAny_loadPart' hl
    repeat (first
      | (refine wpAny_ite_false (decide_eq_false (by rw [z0]; exact Bool.false_ne_true)) ?_; wp_walk using wpAny_loadPart' hl)
      | (refine wpAny_ite_true (decide_eq_true z1) ?_; wp_walk using wpAny_loadPart' hl))
    exact ⟨_, rfl, h⟩
theorem op_repP : OpR X (binaryOp .Mult) (rRepP X.K) := by
  intro pins s σ H x y v u Q I rx ry h
  obtain ⟨l, k, xs, rfl, rfl, hT, hne, h1, hz, q1, q2⟩ := h
  cases rx
  obtain ⟨tk, rfl⟩ := ry
  obtain ⟨js, rv, ⟨⟨oc, od, dat, osl⟩, hob, ec, m, ed⟩, hsz⟩ := I.tuple hT
  simp only at ec ed
  subst ec ed
  have ll : js.length = xs.length := rv.length.symm
  have hz' : xs.length * k.toNat ≤ 16777216 := hz
  by_cases e1 : k = 1
  · subst e1
    refine wpAny_binaryOp_repeat_ref (T := "tuple") (U := "int") (by decide) ⟨_, hob, rfl⟩ (fun s' => typeIs_int s' 1 tk) noFill_tuple_mul F.fills_int_mul F.slot_int_rmul repeat_tuple F.slot_int_index.lookup
      (call_meets F.slot_int_rmul (typeIs_int s 1 tk) F.entry_int_rmul (F.args_int_rmul_2 _ _) (int_rmul_tuple 1 tk l js.toArray m od osl)
        ⟨hob, rfl, ⟨_, hob, rfl⟩, call_meets F.slot_tuple_mul ⟨_, hob, rfl⟩ F.entry_tuple_mul (F.args_tuple_mul_2 _ _) (tup_mul1 l js.toArray m od osl tk) ⟨hob, ?_⟩⟩)
    exact ⟨.ref l, H, I, rfl, q1 rfl⟩
  have g2 : 2 ≤ k := by omega
  have jne : js ≠ [] := fun z => hne (by
    rw [z] at ll
    exact List.eq_nil_of_length_eq_zero ll.symm)
  have jem : js.toArray.isEmpty = false := by
    cases js with
    | nil => exact absurd rfl jne
    | cons _ _ => rfl
  have sz0 : js.toArray.size = xs.length := by rw [List.size_toArray, ll]
  have nx : 1 ≤ xs.length := by
    cases xs with
    | nil => exact absurd rfl hne
    | cons _ _ => simp
  have hk : k = (k.toNat : Int) := by omega
  have kb : k.toNat ≤ xs.length * k.toNat := Nat.le_mul_of_pos_left _ nx
  have kk : k ≤ 16777216 := by omega
  have pr : ((js.toArray.size : Nat) : Int) * k ≤ 16777216 := by
    rw [sz0, hk, ← Int.natCast_mul]
    omega
  have fl : (List.replicate k.toNat js).flatten.length ≤ sizeLine := by
    rw [PyProof.Rows.lm_len_rep_flat, ll, Nat.mul_comm]
    exact hz
  have z0 : (decide (k < -(2 ^ 63)) || decide (k ≥ 2 ^ 63)) = false := by
    rw [decide_eq_false (show ¬ k < -(2 ^ 63) by omega), decide_eq_false (show ¬ k ≥ 2 ^ 63 by omega)] <;> rfl
  have z1 : (js.toArray.isEmpty || k == 1) = false := by
    rw [jem, Bool.false_or]
    exact beq_eq_false_iff_ne.mpr e1
  have z2 : (decide (k ≤ 0) || js.toArray.isEmpty) = false := by
    rw [jem, Bool.or_false]
    exact decide_eq_false (show ¬ k ≤ 0 by omega)
  have z4 : Builtin.Tuple.tupleTooMany (((js.toArray.size : Nat) : Int) * k) = false := by
    unfold Builtin.Tuple.tupleTooMany
    rw [sizeLine_eq]
    exact decide_eq_false (by omega)
  refine wpAny_binaryOp_repeat_ref (T := "tuple") (U := "int") (by decide) ⟨_, hob, rfl⟩ (fun s' => typeIs_int s' k tk) noFill_tuple_mul F.fills_int_mul F.slot_int_rmul repeat_tuple F.slot_int_index.lookup
    (call_meets F.slot_int_rmul (typeIs_int s k tk) F.entry_int_rmul (F.args_int_rmul_2 _ _) (int_rmul_tuple k tk l js.toArray m od osl)
      ⟨hob, rfl, ⟨_, hob, rfl⟩, call_meets F.slot_tuple_mul ⟨_, hob, rfl⟩ F.entry_tuple_mul (F.args_tuple_mul_2 _ _) (tuple_mulW l js.toArray m od osl k tk z0 z1 z2 (by omega) z4 (by rw [size_rep, List.size_toArray]; exact fl)) ⟨hob, ?_⟩⟩)
  rw [size_rep]
  refine ⟨.ref s.heap.objs.size, _, I.laid (t' := s.toks) (o := .tup (List.replicate k.toNat xs).flatten) (fun b ob q => Heap.get?_push_of_some _ q) (Nat.le_refl _) ?_, rfl, q2 g2 _ (I.hok.fresh (Nat.le_refl _))⟩
  exact ⟨by rw [PyProof.Rows.lm_len_rep_flat, Nat.mul_comm]; exact hz, _, rv.rep k.toNat, IsTup.new _ _⟩
def mulD : D → D → Ev
  | .p (.int i), .p (.int j) => okIf (cMul i j) (.p (.int (i * j)))
  | .p (.tup xs), .p (.int k) => okIf (!xs.isEmpty && decide (1 ≤ k) && decide (xs.length * k.toNat ≤ sizeLine)) (.p (.tup (List.replicate k.toNat xs).flatten))
  | .p (.lst xs), .p (.int k) => okIf (decide (-(2 ^ 63) ≤ k) && decide (k < 2 ^ 63) && decide (xs.length * k.toNat ≤ sizeLine)) (.p (.lst (List.replicate k.toNat xs).flatten))
  | _, _ => bad1
def rMulI : R2 := rI CMul fun i j => .int (i * j)
def rMulD (K : PySem.W.Frag) : R2 := fun x y H Q => rMulI x y H Q ∨ (rRepP K x y H Q ∨ rRep x y H Q)
theorem u_mul : U2 X G (rMulD X.K) mulD := by
  intro σ w s H d e v u Q W hd he h
  cases hd with
  | p td =>
    cases he with
    | p te =>
      cases td with
      | int i =>
        cases te with
        | int j =>
          obtain ⟨c, h⟩ := okIf_post h
          refine .inl ⟨i, j, rfl, rfl, ?_, Post.here W (.p (.int _)) h⟩
          simpa [CMul, cMul] using c
        | _ => exact h.elim
      | lst h1 h2 t1 =>
        cases te with
        | int k =>
          obtain ⟨c, h⟩ := okIf_post h
          simp only [Bool.and_eq_true, decide_eq_true_eq] at c
          exact .inr (.inr ⟨_, k, _, rfl, rfl, h1, c.1.1, c.1.2, by rw [← t1.len]; exact c.2, fun p np => Post.newL W (t1.rep _) np h⟩)
        | _ => exact h.elim
      | @tup a1 xs vs h1 t1 =>
        cases te with
        | int k =>
          obtain ⟨c, h⟩ := okIf_post h
          simp only [Bool.and_eq_true, decide_eq_true_eq, Bool.not_eq_true', List.isEmpty_eq_false_iff] at c
          refine .inr (.inl ⟨_, k, vs, rfl, rfl, .of h1, fun z => c.1.1 (by subst z; cases t1; rfl), c.1.2, by rw [← t1.len]; exact c.2, fun z => ?_, fun _ p np => Post.newT W (t1.rep _) np h⟩)
          subst z
          rw [show ((1 : Int).toNat) = 1 from rfl, List.replicate_one, List.flatten_cons, List.flatten_nil, List.append_nil] at h
          exact Post.here W (.p (.tup h1 t1)) h
        | _ => exact h.elim
      | tupK hq _ _ => cases hq
      | _ => cases te <;> exact h.elim
    | _ => cases td <;> exact h.elim
  | _ => exact h.elim
theorem de_mul {a b : Expr} {f g : Ev} {pos : Pos} (ha : DE X G a f) (hb : DE X G b g) : DE X G (.BinOp a .Mult b pos) (bnd2 f g mulD) := de_op (op_mul.or (op_repP.or op_rep)) u_mul ha hb
def negD : D → Ev
  | .p (.int i) => cst (.p (.int (-i)))
  | _ => bad1
theorem de_neg {a : Expr} {f : Ev} {pos : Pos} (ha : DE X G a f) : DE X G (.UnaryOp .USub a pos) (bnd f negD) :=
  PEi (pe_un un_neg ha) fun σ H Q ⟨w, s, W, h⟩ => ⟨w, s, W, h.bind fun a s1 v w1 H1 m1 W1 r1 h1 => by
    cases r1 with
    | p t =>
      cases t with
      | int i => exact ⟨i, rfl, Post.here W1 (.p (.int _)) h1⟩
      | _ => exact h1.elim
    | _ => exact h1.elim⟩
end
end Dz
namespace Dz
open PySem PySem.Spec PyProof.Rows L2
/-! ### what a value shows -/
/-- an item of a module's tuple -/
def kitem : P → D
  | .tup xs => .kt xs
  | x => .p x
def seqOf (d : D) (s : Sta) : Option (List D) := match d with
  | .p (.lst xs) => some (xs.map .p)
  | .p (.tup xs) => some (xs.map .p)
  | .fz xs => some (xs.map .p)
  | .kt xs => some (xs.map kitem)
  | .loc n => match s.st with
    | some S => match S[n]? with
      | some (.lst ds) => some ds
      | some (.tup ds) => some ds
      | _ => none
    | none => none
  | _ => none
def dicOf (d : D) (s : Sta) : Option (List (Key × D)) := match d with
  | .dic kvs => some (kvs.map fun kv => (kv.1, .p kv.2))
  | .loc n => match s.st with
    | some S => match S[n]? with
      | some (.dic ds) => some ds
      | _ => none
    | none => none
  | _ => none
def dctOf (d : D) (s : Sta) : Option (List (List Key × D)) := match d with
  | .dct kvs => some (kvs.map fun kv => (kv.1, .p kv.2))
  | .loc n => match s.st with
    | some S => match S[n]? with
      | some (.dct ds) => some ds
      | _ => none
    | none => none
  | _ => none
section
variable {X : Cx} {G : Env} {σ : L2.St} {w w1 : Wo} {H H1 : Hp} {s s1 : Sta} {K : PySem.W.Frag} {mg : Str → Option Value} {B : Ba}
theorem TdL.vd : ∀ {xs : List P} {vs : List V}, TdL K false H w.I xs vs → VdL K H w (xs.map .p) vs
  | _, _, .nil => .nil
  | _, _, .cons a t => .cons (.p a) (TdL.vd t)
theorem kitems : ∀ {xs : List P} {vs : List V}, (∀ H, TdL K true H (fun _ => False) xs vs) → VdL K H w (xs.map kitem) vs
  | [], _, h => by cases h H; exact .nil
  | x :: xs, [], h => by cases h H
  | x :: xs, v :: vs, h => by
    refine .cons ?_ (kitems fun H => by cases h H with | cons _ t => exact t)
    cases x with
    | tup ys =>
      cases h (fun _ => Option.none) with
      | cons a t =>
        cases a with
        | tup z _ => cases z
        | @tupK a _ us _ h1 t1 => exact .kt h1 fun H' => t1.mono ⟨fun _ _ z => z.elim, fun _ _ e => by cases e⟩
    | lst ys =>
      cases h H with
      | cons a t => cases a with | lst _ z _ => exact z.elim
    | non => cases h H with | cons a t => cases a; exact .p .non
    | bl _ => cases h H with | cons a t => cases a; exact .p (.bl _)
    | int _ => cases h H with | cons a t => cases a; exact .p (.int _)
    | str _ => cases h H with | cons a t => cases a; exact .p (.str _)
theorem TdK.vd {κ : Type} {xs : List (κ × P)} {vs : List (κ × V)} (h : TdK K false H w.I xs vs) : VdK K H w (xs.map fun kv => (kv.1, .p kv.2)) vs := by
  induction h with
  | nil => exact .nil
  | cons a _ ih => exact .cons (.p a) ih
theorem VdL.len : ∀ {xs : List D} {vs : List V}, VdL K H w xs vs → xs.length = vs.length
  | _, _, .nil => rfl
  | _, _, .cons _ t => by simp [VdL.len t]
theorem VdL.at : ∀ {xs : List D} {vs : List V} {i : Nat} {x : D}, VdL K H w xs vs → xs[i]? = some x → ∃ v, vs[i]? = some v ∧ Vd K H w x v
  | _, _, 0, _, .cons a t, e => by simp at e; subst e; exact ⟨_, by simp, a⟩
  | _, _, i + 1, _, .cons a t, e => by simpa using VdL.at (i := i) t (by simpa using e)
  | _, _, _, _, .nil, e => by simp at e
theorem VdK.val {κ : Type} [DecidableEq κ] {xs : List (κ × D)} {vs : List (κ × V)} (h : VdK K H w xs vs) (k : κ) : (xs.find? (fun kv => decide (kv.1 = k)) = none ∧ valV vs k = none) ∨ ∃ kv v, xs.find? (fun kv => decide (kv.1 = k)) = some kv ∧ valV vs k = some v ∧ Vd K H w kv.2 v := by
  induction h with
  | nil => exact .inl ⟨rfl, rfl⟩
  | @cons k' x xs v vs h1 _ ih =>
    by_cases e : k' = k
    · exact .inr ⟨(k', x), v, by simp [List.find?_cons, e], valV_pos e, h1⟩
    · rw [List.find?_cons, valV_neg (p := (k', v)) e]
      simpa [e] using ih
theorem seq_at {d : D} {v : V} {ds : List D} (W : Wd K mg B w σ s H) (h : Vd K H w d v) (e : seqOf d s = some ds) : ∃ a vs, v = .ref a ∧ (SqL K H a vs ∨ SqT K H a vs) ∧ VdL K H w ds vs := by
  unfold seqOf at e
  cases h with
  | p t =>
    cases t with
    | lst h1 h2 t => simp at e; subst e; exact ⟨_, _, rfl, .inl (.of h1), t.vd⟩
    | tup h1 t => simp at e; subst e; exact ⟨_, _, rfl, .inr (.of h1), t.vd⟩
    | tupK hq _ _ => cases hq
    | _ => simp at e
  | fz h1 t => simp at e; subst e; exact ⟨_, _, rfl, .inl h1.sq, t.vd⟩
  | kt h1 h2 => simp at e; subst e; exact ⟨_, _, rfl, .inr (h1 _), kitems h2⟩
  | @loc n a hn =>
    have st := W.sto
    cases es : s.st with
    | none => rw [es] at e; simp at e
    | some S =>
      rw [es] at e st
      simp only at e
      split at e
      · rename_i ds' em
        cases e
        cases st.2 n a _ hn em with
        | lst h1 t => exact ⟨_, _, rfl, .inl (.of h1), t⟩
      · rename_i ds' em
        cases e
        cases st.2 n a _ hn em with
        | tup h1 t => exact ⟨_, _, rfl, .inr (.of h1), t⟩
      · cases e
  | dic => simp at e
  | dct => simp at e
theorem dic_at {d : D} {v : V} {ds : List (Key × D)} (W : Wd K mg B w σ s H) (h : Vd K H w d v) (e : dicOf d s = some ds) : ∃ a vs, v = .ref a ∧ Rd H a (.dK vs) ∧ VdK K H w ds vs := by
  unfold dicOf at e
  cases h with
  | dic h1 h2 t => simp at e; subst e; exact ⟨_, _, rfl, h1, t.vd⟩
  | @loc n a hn =>
    have st := W.sto
    cases es : s.st with
    | none => rw [es] at e; simp at e
    | some S =>
      rw [es] at e st
      simp only at e
      split at e
      · rename_i ds' em
        cases e
        cases st.2 n a _ hn em with
        | dic h1 t => exact ⟨_, _, rfl, .inl h1, t⟩
      · cases e
  | p t => simp at e
  | kt => simp at e
  | fz => simp at e
  | dct => simp at e
theorem dic_atL {n : Nat} {v : V} {ds : List (Key × D)} (W : Wd K mg B w σ s H) (h : Vd K H w (.loc n) v) (e : dicOf (.loc n) s = some ds) : ∃ a vs, v = .ref a ∧ H a = some (.dK vs) ∧ VdK K H w ds vs := by
  unfold dicOf at e
  cases h with
  | @loc n a hn =>
    have st := W.sto
    cases es : s.st with
    | none => rw [es] at e; simp at e
    | some S =>
      rw [es] at e st
      simp only at e
      split at e
      · rename_i ds' em
        cases e
        cases st.2 n a _ hn em with
        | dic h1 t => exact ⟨_, _, rfl, h1, t⟩
      · cases e
theorem dct_at {d : D} {v : V} {ds : List (List Key × D)} (W : Wd K mg B w σ s H) (h : Vd K H w d v) (e : dctOf d s = some ds) : ∃ a vs, v = .ref a ∧ Rd H a (.dT vs) ∧ VdK K H w ds vs := by
  unfold dctOf at e
  cases h with
  | dct h1 h2 t => simp at e; subst e; exact ⟨_, _, rfl, h1, t.vd⟩
  | @loc n a hn =>
    have st := W.sto
    cases es : s.st with
    | none => rw [es] at e; simp at e
    | some S =>
      rw [es] at e st
      simp only at e
      split at e
      · rename_i ds' em
        cases e
        cases st.2 n a _ hn em with
        | dct h1 t => exact ⟨_, _, rfl, .inl h1, t⟩
      · cases e
  | p t => simp at e
  | kt => simp at e
  | fz => simp at e
  | dic => simp at e

/-! ### comparisons -/
/-- as data, to be compared -/
def asP : D → Option P
  | .p x => some x
  | .kt xs => some (.tup xs)
  | _ => none
theorem asP_td {d : D} {x : P} {v : V} (h : Vd K H w d v) (e : asP d = some x) : Td K true H w.I x v := by
  cases h with
  | p t => cases e; exact t.weak
  | kt h1 h2 => cases e; exact .tupK rfl h1 ((h2 H).mono (.sub fun _ z => z.elim))
  | _ => cases e
def unP : D → Option P
  | .p x => some x
  | _ => none
/-- the items of what is walked or looked into -/
theorem VdL.td : ∀ {ds : List D} {xs : List P} {vs : List V}, VdL K H w ds vs → ds.mapM unP = some xs → TdL K false H w.I xs vs
  | [], xs, _, .nil, e => by simp at e; subst e; exact .nil
  | d :: ds, xs, _, .cons a t, e => by
    rw [List.mapM_cons] at e
    cases d with
    | p x =>
      simp only [unP, Option.pure_def, Option.bind_eq_bind, Option.bind_some] at e
      cases e2 : ds.mapM unP with
      | none => rw [e2] at e; simp at e
      | some ys =>
        rw [e2] at e
        simp at e
        subst e
        cases a with
        | p a => exact .cons a (VdL.td t e2)
    | _ => simp [unP] at e
/-- .. also a list or tuple of the store -/
def asPS (d : D) (s : Sta) : Option P := match d with
  | .loc n => match s.st with
    | some S => match S[n]? with
      | some (.lst ds) => (ds.mapM unP).map .lst
      | some (.tup ds) => (ds.mapM unP).map .tup
      | _ => none
    | none => none
  | d => asP d
theorem asPS_td {d : D} {x : P} {v : V} (W : Wd K mg B w σ s H) (h : Vd K H w d v) (e : asPS d s = some x) : Td K true H (fun _ => True) x v := by
  have old : ∀ {d : D}, Vd K H w d v → asP d = some x → Td K true H (fun _ => True) x v := fun h e => (asP_td h e).mono (.sub fun _ _ => trivial)
  cases h with
  | @loc n a hn =>
    have so := W.sto
    unfold asPS at e
    simp only at e
    split at e
    · rename_i S es
      rw [es] at so
      split at e
      · rename_i ds em
        obtain ⟨xs, ex, rfl⟩ := Option.map_eq_some_iff.mp e
        cases so.2 n a _ hn em with
        | lst h1 t => exact .lst h1 trivial (((t.td ex).weak).mono (.sub fun _ _ => trivial))
      · rename_i ds em
        obtain ⟨xs, ex, rfl⟩ := Option.map_eq_some_iff.mp e
        cases so.2 n a _ hn em with
        | tup h1 t => exact .tup h1 (((t.td ex).weak).mono (.sub fun _ _ => trivial))
      · cases e
    · cases e
  | p t => exact old (.p t) e
  | kt h1 h2 => exact old (.kt h1 h2) e
  | fz h1 h3 => cases e
  | dic h1 h2 h3 => cases e
  | dct h1 h2 h3 => cases e
def cmpP (neg : Bool) (d e : D) (s : Sta) : Option Bool := (asPS d s).bind fun x => (asPS e s).bind fun y => if min (deep x) (deep y) ≤ 60 then some (if neg then !eqP x y else eqP x y) else none
def eqD : D → D → Ev := fun d e s => match cmpP false d e s with
  | some b => .ok (.p (.bl b)) s
  | none => .bad
def neD : D → D → Ev := fun d e s => match cmpP true d e s with
  | some b => .ok (.p (.bl b)) s
  | none => .bad
theorem cmpP_at {neg b : Bool} {d e : D} {v u : V} (W : Wd K mg B w σ s H) (hd : Vd K H w d v) (he : Vd K H w e u) (c : cmpP neg d e s = some b) : ∃ x y, Td K true H (fun _ => True) x v ∧ Td K true H (fun _ => True) y u ∧ min (deep x) (deep y) ≤ 60 ∧ b = if neg then !eqP x y else eqP x y := by
  unfold cmpP at c
  cases e1 : asPS d s with
  | none => rw [e1] at c; cases c
  | some x =>
    cases e2 : asPS e s with
    | none => rw [e1, e2] at c; cases c
    | some y =>
      rw [e1, e2] at c
      simp only [Option.bind_some] at c
      split at c
      · rename_i z; cases c; exact ⟨x, y, asPS_td W hd e1, asPS_td W he e2, z, rfl⟩
      · cases c
theorem u_eq : U2 X G (rEq X.K) eqD := by
  intro σ w s H d e v u Q W hd he h
  unfold eqD at h
  split at h
  · rename_i b c
    obtain ⟨x, y, t1, t2, z, rfl⟩ := cmpP_at W hd he c
    exact ⟨_, _, _, t1, t2, z, Post.here W (.p (.bl _)) h⟩
  · exact h.elim
theorem u_ne : U2 X G (rNe X.K) neD := by
  intro σ w s H d e v u Q W hd he h
  unfold neD at h
  split at h
  · rename_i b c
    obtain ⟨x, y, t1, t2, z, rfl⟩ := cmpP_at W hd he c
    exact ⟨_, _, _, t1, t2, z, Post.here W (.p (.bl _)) h⟩
  · exact h.elim
variable {a b c : Expr} {f g h : Ev} {pos : Pos}
theorem de_eq (hu : X.A.units + 64 < cLine) (ha : DE X G a f) (hb : DE X G b g) : DE X G (.Compare a [.Eq] [b] pos) (bnd2 f g eqD) := de_cmp (op_eqP hu) (nomark _) u_eq ha hb
theorem de_ne (hu : X.A.units + 64 < cLine) (ha : DE X G a f) (hb : DE X G b g) : DE X G (.Compare a [.NotEq] [b] pos) (bnd2 f g neD) := de_cmp (op_neP hu) (nomark _) u_ne ha hb
def ltD : D → D → Ev := intOp (fun _ _ => true) fun i j => .bl (decide (i < j))
def leD : D → D → Ev := intOp (fun _ _ => true) fun i j => .bl (decide (i ≤ j))
def gtD : D → D → Ev := intOp (fun _ _ => true) fun i j => .bl (decide (j < i))
def geD : D → D → Ev := intOp (fun _ _ => true) fun i j => .bl (decide (j ≤ i))
theorem de_lt (ha : DE X G a f) (hb : DE X G b g) : DE X G (.Compare a [.Lt] [b] pos) (bnd2 f g ltD) := de_cmp op_lt (nomark _) (u_int0 fun _ _ _ _ => .bl _) ha hb
theorem de_le (ha : DE X G a f) (hb : DE X G b g) : DE X G (.Compare a [.LtE] [b] pos) (bnd2 f g leD) := de_cmp op_le (nomark _) (u_int0 fun _ _ _ _ => .bl _) ha hb
theorem de_gt (ha : DE X G a f) (hb : DE X G b g) : DE X G (.Compare a [.Gt] [b] pos) (bnd2 f g gtD) := de_cmp op_gt (nomark _) (u_int0 fun _ _ _ _ => .bl _) ha hb
theorem de_ge (ha : DE X G a f) (hb : DE X G b g) : DE X G (.Compare a [.GtE] [b] pos) (bnd2 f g geD) := de_cmp op_ge (nomark _) (u_int0 fun _ _ _ _ => .bl _) ha hb
/-- is None, is True -/
def isNon : D → Bool
  | .p .non => true
  | _ => false
def isD : D → D → Ev
  | d, .p .non => cst (.p (.bl (isNon d)))
  | .p (.bl x), .p (.bl y) => cst (.p (.bl (decide (x = y))))
  | _, _ => bad1
def isntD : D → D → Ev
  | d, .p .non => cst (.p (.bl (!isNon d)))
  | .p (.bl x), .p (.bl y) => cst (.p (.bl (!decide (x = y))))
  | _, _ => bad1
theorem non_dec {d : D} {v : V} (h : Vd K H w d v) : decide (v = .non) = isNon d := by
  cases h with
  | p t => cases t <;> rfl
  | _ => rfl
def rIsD : R2 := fun x y H Q => (y = .non ∧ Q (.bl (decide (x = .non))) H) ∨ ∃ a b, x = .bl a ∧ y = .bl b ∧ Q (.bl (decide (a = b))) H
def rIsntD : R2 := fun x y H Q => (y = .non ∧ Q (.bl (!decide (x = .non))) H) ∨ ∃ a b, x = .bl a ∧ y = .bl b ∧ Q (.bl (!decide (a = b))) H
theorem u_is : U2 X G rIsD isD := by
  intro σ w s H d e v u Q W hd he h
  unfold isD at h
  split at h
  · cases he with | p te => cases te; exact .inl ⟨rfl, by rw [non_dec hd]; exact Post.here W (.p (.bl _)) h⟩
  · cases hd with | p td => cases td; cases he with | p te => cases te; exact .inr ⟨_, _, rfl, rfl, Post.here W (.p (.bl _)) h⟩
  · exact h.elim
theorem u_isnt : U2 X G rIsntD isntD := by
  intro σ w s H d e v u Q W hd he h
  unfold isntD at h
  split at h
  · cases he with | p te => cases te; exact .inl ⟨rfl, by rw [non_dec hd]; exact Post.here W (.p (.bl _)) h⟩
  · cases hd with | p td => cases td; cases he with | p te => cases te; exact .inr ⟨_, _, rfl, rfl, Post.here W (.p (.bl _)) h⟩
  · exact h.elim
theorem de_is (ha : DE X G a f) (hb : DE X G b g) : DE X G (.Compare a [.Is] [b] pos) (bnd2 f g isD) := de_cmp (op_isN.or op_is_bl) (nomark _) u_is ha hb
theorem de_isnt (ha : DE X G a f) (hb : DE X G b g) : DE X G (.Compare a [.IsNot] [b] pos) (bnd2 f g isntD) := de_cmp (op_notN.or op_isnot_bl) (nomark _) u_isnt ha hb
end
end Dz
namespace Dz
open PySem PySem.Spec PyProof.Rows L2 PySem.SeqAt
section
variable {X : Cx} {G : Env} {σ : L2.St} {w w1 : Wo} {H H1 : Hp} {s s1 : Sta} {K : PySem.W.Frag} {mg : Str → Option Value} {B : Ba}
/-! ### in -/
/-- whether an item is == to d -/
noncomputable def isEqU (K : PySem.W.Frag) (H : Hp) (J : Addr → Prop) (d : P) (u : Value) : Bool := @decide (∃ x v, Td K false H J x v ∧ RelV v u ∧ eqP x d = true) (Classical.propDecidable _)
theorem isEqU_of {pins : List (Addr × Obj)} {sh : Shared} {J : Addr → Prop} {d x : P} {v : V} {u : Value} (I : Inv X pins σ H sh) (t : Td X.K false H J x v) (r : RelV v u) : isEqU X.K H J d u = eqP x d := by
  unfold isEqU
  cases e : eqP x d with
  | true => exact @decide_eq_true _ (Classical.propDecidable _) ⟨x, v, t, r, e⟩
  | false =>
    refine @decide_eq_false _ (Classical.propDecidable _) fun ⟨x', v', t', r', e'⟩ => ?_
    cases r.inj r'
    cases Td.uniq I _ _ _ t t'
    rw [e] at e'; cases e'
theorem any_isEq {pins : List (Addr × Obj)} {sh : Shared} {J : Addr → Prop} {d : P} (I : Inv X pins σ H sh) : ∀ {xs : List P} {vs : List V} {us : List Value}, TdL X.K false H J xs vs → Vals vs us → us.any (isEqU X.K H J d) = xs.any fun x => eqP x d
  | _, _, _, .nil, .nil => rfl
  | _, _, _, .cons a t, .cons r q => by rw [List.any_cons, List.any_cons, isEqU_of I a r, any_isEq I t q]
theorem each_isEq {pins : List (Addr × Obj)} {sh : Shared} {J : Addr → Prop} {d : P} {y : V} {v : Value} {A : Around} (I : Inv X pins σ H sh) (td : Td X.K false H J d y) (rd : RelV y v) (hu : A.units + 60 < cLine) :
    ∀ {xs : List P} {vs : List V} {us : List Value}, min (deep d) (deepL xs) ≤ 60 → TdL X.K false H J xs vs → Vals vs us → ∀ u ∈ us, EqAt A sh u v (isEqU X.K H J d u)
  | _, _, _, _, .nil, .nil => fun u hu => by cases hu
  | x :: xs, _, u :: us, hd, .cons a t, .cons r q => fun u' hm => by
    have e1 : deep x ≤ deepL (x :: xs) := Nat.le_max_left _ _
    have e2 : deepL xs ≤ deepL (x :: xs) := Nat.le_max_right _ _
    rcases List.mem_cons.mp hm with rfl | hm
    · rw [isEqU_of I a r]
      exact eq_at I 60 _ _ _ _ _ _ A (by omega) a td r rd hu
    · exact each_isEq I td rd hu (by omega) t q u' hm
/-- x in a list or tuple of data -/
def rInP (K : PySem.W.Frag) (neg : Bool) : R2 := fun x y H Q => ∃ (J : Addr → Prop) (d : P) (xs : List P) (a : Addr) (vs : List V), y = .ref a ∧ (SqL K H a vs ∨ SqT K H a vs) ∧ TdL K false H J xs vs ∧ Td K false H J d x ∧ min (deep d) (deepL xs) ≤ 60 ∧
  Q (.bl (if neg then !(xs.any fun z => eqP z d) else xs.any fun z => eqP z d)) H
theorem op_inP (hu : X.A.units + 64 < cLine) : OpR X (compareOp .In) (rInP X.K false) := by
  intro pins s σ H x y v u Q I rx ry h
  obtain ⟨J, d, xs, a, vs, rfl, hq, tl, td, hd, q⟩ := h
  cases ry
  have hu' : X.A.in1.units + 60 < cLine := by show X.A.units + 1 + 60 < _; omega
  rcases hq with hq | hq
  · obtain ⟨its, r, pl, hz⟩ := I.list hq
    refine in_listAt (isEqU X.K H J d) pl.isList (fun u' hm => each_isEq I td rx hu' hd tl r u' (by simpa using hm)) ⟨.bl _, H, I, rfl, ?_⟩
    rw [List.any_toArray, any_isEq I tl r]
    exact q
  · obtain ⟨its, r, pl, hz⟩ := I.tuple hq
    refine in_tupleAt (isEqU X.K H J d) pl (fun u' hm => each_isEq I td rx hu' hd tl r u' (by simpa using hm)) ⟨.bl _, H, I, rfl, ?_⟩
    rw [List.any_toArray, any_isEq I tl r]
    exact q
theorem op_notInP (hu : X.A.units + 64 < cLine) : OpR X (compareOp .NotIn) (rInP X.K true) := by
  intro pins s σ H x y v u Q I rx ry h
  obtain ⟨J, d, xs, a, vs, rfl, hq, tl, td, hd, q⟩ := h
  cases ry
  have hu' : X.A.in1.units + 60 < cLine := by show X.A.units + 1 + 60 < _; omega
  rcases hq with hq | hq
  · obtain ⟨its, r, pl, hz⟩ := I.list hq
    refine notIn_listAt (isEqU X.K H J d) pl.isList (fun u' hm => each_isEq I td rx hu' hd tl r u' (by simpa using hm)) ⟨.bl _, H, I, rfl, ?_⟩
    rw [List.any_toArray, any_isEq I tl r]
    exact q
  · obtain ⟨its, r, pl, hz⟩ := I.tuple hq
    refine notIn_tupleAt (isEqU X.K H J d) pl (fun u' hm => each_isEq I td rx hu' hd tl r u' (by simpa using hm)) ⟨.bl _, H, I, rfl, ?_⟩
    rw [List.any_toArray, any_isEq I tl r]
    exact q
/-- a key of a dict -/
def keyP : P → Option Key
  | .int i => some (.inl i)
  | .str x => some (.inr x)
  | _ => none
def keysP : P → Option (List Key)
  | .tup xs => xs.mapM keyP
  | _ => none
def rInK (neg : Bool) : R2 := fun x y H Q => ∃ a o, y = .ref a ∧ DGet H a x o ∧ Q (.bl (if neg then !o.isSome else o.isSome)) H
theorem op_inK (hu : X.A.units + 64 < cLine) : OpR X (compareOp .In) (rInK false) := by
  intro pins s σ H x y v u Q I rx ry h
  obtain ⟨a, o, rfl, g, q⟩ := h
  cases ry
  exact d_in (by omega) I g rx fun s' I' => ⟨.bl _, H, I', rfl, q⟩
theorem op_notInK (hu : X.A.units + 64 < cLine) : OpR X (compareOp .NotIn) (rInK true) := by
  intro pins s σ H x y v u Q I rx ry h
  obtain ⟨a, o, rfl, g, q⟩ := h
  cases ry
  exact d_notIn (by omega) I g rx fun s' I' => ⟨.bl _, H, I', rfl, q⟩
theorem op_notIn_sign' : OpR X (compareOp .NotIn) (fun x y H Q => ∃ (c : Nat) (z : Str), x = .str ⟨#[c]⟩ ∧ y = .str z ∧ Q (.bl (!decide (c ∈ z.cps.toList))) H) := op_notIn_sign
def rInS (neg : Bool) : R2 := fun x y H Q => ∃ (c : Nat) (z : Str), x = .str ⟨#[c]⟩ ∧ y = .str z ∧ Q (.bl (if neg then !decide (c ∈ z.cps.toList) else decide (c ∈ z.cps.toList))) H
/-- what a dict has for a key -/
def getK {κ : Type} [DecidableEq κ] {α : Type} (kvs : List (κ × α)) (k : κ) : Option α := (kvs.find? fun kv => decide (kv.1 = k)).map (·.2)
def inB (d e : D) (s : Sta) : Option Bool := match d, e with
  | .p (.str x), .p (.str z) => match x.cps.toList with
    | [c] => some (decide (c ∈ z.cps.toList))
    | _ => none
  | .p x, e => match seqOf e s with
    | some ds => match ds.mapM unP with
      | some xs => if min (deep x) (deepL xs) ≤ 60 then some (xs.any fun z => eqP z x) else none
      | none => none
    | none => match dicOf e s with
      | some kvs => match keyP x with
        | some k => some (getK kvs k).isSome
        | none => none
      | none => match dctOf e s with
        | some kvs => match keysP x with
          | some k => some (getK kvs k).isSome
          | none => none
        | none => none
  | _, _ => none
def inD (neg : Bool) : D → D → Ev := fun d e s => match inB d e s with
  | some b => .ok (.p (.bl (if neg then !b else b))) s
  | none => .bad
theorem key_v {x : P} {k : Key} {v : V} {J : Addr → Prop} (t : Td K false H J x v) (e : keyP x = some k) : v = kV k := by
  cases t <;> simp [keyP] at e <;> subst e <;> rfl
theorem keys_v {J : Addr → Prop} : ∀ {xs : List P} {ks : List Key} {vs : List V}, TdL K false H J xs vs → xs.mapM keyP = some ks → vs = ks.map kV
  | [], ks, _, .nil, e => by simp at e; subst e; rfl
  | x :: xs, ks, _, .cons a t, e => by
    rw [List.mapM_cons] at e
    cases e1 : keyP x with
    | none => rw [e1] at e; simp at e
    | some k =>
      cases e2 : xs.mapM keyP with
      | none => rw [e1, e2] at e; simp at e
      | some ks' =>
        rw [e1, e2] at e
        simp at e
        subst e
        rw [key_v a e1, keys_v t e2]
        rfl
theorem keysP_at {J : Addr → Prop} {x : P} {k : List Key} {v : V} (t : Td K false H J x v) (e : keysP x = some k) : ∃ b, v = .ref b ∧ H b = some (.tup (k.map kV)) := by
  cases t with
  | tup h1 t => exact ⟨_, rfl, by rw [← keys_v t e]; exact h1⟩
  | tupK hq _ _ => cases hq
  | _ => cases e
theorem getK_v {κ : Type} [DecidableEq κ] {xs : List (κ × D)} {vs : List (κ × V)} (h : VdK K H w xs vs) (k : κ) : (getK xs k = none ∧ valV vs k = none) ∨ ∃ d v, getK xs k = some d ∧ valV vs k = some v ∧ Vd K H w d v := by
  rcases h.val k with ⟨h1, h2⟩ | ⟨kv, v, h1, h2, h3⟩
  · exact .inl ⟨by unfold getK; rw [h1]; rfl, h2⟩
  · exact .inr ⟨kv.2, v, by unfold getK; rw [h1]; rfl, h2, h3⟩
theorem getK_some {κ : Type} [DecidableEq κ] {xs : List (κ × D)} {vs : List (κ × V)} (h : VdK K H w xs vs) (k : κ) : (valV vs k).isSome = (getK xs k).isSome := by
  rcases getK_v h k with ⟨h1, h2⟩ | ⟨_, _, h1, h2, _⟩ <;> rw [h1, h2] <;> rfl
def rInD (K : PySem.W.Frag) (neg : Bool) : R2 := fun x y H Q => rInS neg x y H Q ∨ (rInP K neg x y H Q ∨ rInK neg x y H Q)
theorem u_in (neg : Bool) : U2 X G (rInD X.K neg) (inD neg) := by
  intro σ w s H d e v u Q W hd he h
  unfold inD at h
  split at h
  · rename_i b eb
    have fin : ∀ {c : Bool}, c = (if neg then !b else b) → Q (.bl c) H := fun {c} z => by rw [z]; exact Post.here W (.p (.bl _)) h
    unfold inB at eb
    split at eb
    · rename_i x z
      split at eb
      · rename_i c ec
        cases eb
        have ex : x = ⟨#[c]⟩ := Str.ext' (by apply Array.toList_inj.mp; rw [ec])
        subst ex
        cases hd with
        | p t =>
          cases t
          cases he with
          | p t => cases t; exact .inl ⟨_, _, rfl, rfl, fin rfl⟩
      · cases eb
    · rename_i x e'
      cases hd with
      | @p x _ t =>
        split at eb
        · rename_i ds es
          split at eb
          · rename_i xs exs
            split at eb
            · rename_i hz
              cases eb
              obtain ⟨a, vs, rfl, hq, tl⟩ := seq_at W he es
              exact .inr (.inl ⟨w.I, x, xs, a, vs, rfl, hq, tl.td exs, t, hz, fin rfl⟩)
            · cases eb
          · cases eb
        · split at eb
          · rename_i kvs ek
            split at eb
            · rename_i k kk
              cases eb
              obtain ⟨a, vs, rfl, hq, tl⟩ := dic_at W he ek
              cases key_v t kk
              exact .inr (.inr ⟨a, _, rfl, .inl ⟨_, _, hq, rfl, rfl⟩, fin (by rw [getK_some tl])⟩)
            · cases eb
          · split at eb
            · rename_i kvs ek
              split at eb
              · rename_i k kk
                cases eb
                obtain ⟨a, vs, rfl, hq, tl⟩ := dct_at W he ek
                obtain ⟨c, rfl, hc⟩ := keysP_at t kk
                exact .inr (.inr ⟨a, _, rfl, .inr ⟨_, _, _, hq, rfl, hc, rfl⟩, fin (by rw [getK_some tl])⟩)
              · cases eb
            · cases eb
    · cases eb
  · exact h.elim
theorem op_inS (neg : Bool) : OpR X (compareOp (if neg then .NotIn else .In)) (rInS neg) := by
  cases neg
  · exact op_in_sign
  · exact op_notIn_sign
variable {a b c : Expr} {f g h : Ev} {pos : Pos}
theorem de_in (hu : X.A.units + 64 < cLine) (ha : DE X G a f) (hb : DE X G b g) (hm : behindInMarks .In b = false := by rfl) : DE X G (.Compare a [.In] [b] pos) (bnd2 f g (inD false)) := de_cmp ((op_inS false).or ((op_inP hu).or (op_inK hu))) hm (u_in false) ha hb
theorem de_notIn (hu : X.A.units + 64 < cLine) (ha : DE X G a f) (hb : DE X G b g) (hm : behindInMarks .NotIn b = false := by rfl) : DE X G (.Compare a [.NotIn] [b] pos) (bnd2 f g (inD true)) := de_cmp ((op_inS true).or ((op_notInP hu).or (op_notInK hu))) hm (u_in true) ha hb

/-! ### truth -/
def truB (d : D) (s : Sta) : Option Bool := match d with
  | .p .non => some false
  | .p (.bl b) => some b
  | .p (.int i) => some (i != 0)
  | .p (.str x) => if x.length ≤ sizeLine then some ((x.length : Int) != 0) else none
  | d => match seqOf d s with
    | some ds => some (!ds.isEmpty)
    | none => match d with
      | .loc n => (dicOf (.loc n) s).map fun kvs => !kvs.isEmpty
      | _ => none
theorem VdL.emp {ds : List D} {vs : List V} (t : VdL K H w ds vs) : ds.isEmpty = vs.isEmpty := by cases t <;> rfl
theorem VdK.emp {κ : Type} {ds : List (κ × D)} {vs : List (κ × V)} (t : VdK K H w ds vs) : ds.isEmpty = vs.isEmpty := by cases t <;> rfl
theorem tru_of {d : D} {v : V} {k : Bool} (W : Wd X.K X.mg G.B w σ s H) (hd : Vd X.K H w d v) (e : truB d s = some k) : TruV X.K v H k := by
  have gen : ∀ {d : D}, Vd X.K H w d v → (match seqOf d s with | some ds => some (!ds.isEmpty) | none => match d with | .loc n => (dicOf (.loc n) s).map fun kvs => !kvs.isEmpty | _ => none) = some k → TruV X.K v H k := fun {d} hd e => by
    split at e
    · rename_i ds es
      cases e
      obtain ⟨a, vs, rfl, hq, tl⟩ := seq_at W hd es
      rcases hq with hq | hq
      · exact .inl ⟨vs, hq, by rw [tl.emp]⟩
      · exact .inr (.inl ⟨vs, hq, by rw [tl.emp]⟩)
    · split at e
      · rename_i n es0
        obtain ⟨kvs, ek, rfl⟩ := Option.map_eq_some_iff.mp e
        obtain ⟨a, vs, rfl, hq, tl⟩ := dic_atL W hd ek
        exact .inr (.inr ⟨vs, hq, by rw [tl.emp]⟩)
      · cases e
  unfold truB at e
  split at e
  · cases e; cases hd with | p t => cases t; rfl
  · cases e; cases hd with | p t => cases t; rfl
  · cases e; cases hd with | p t => cases t; rfl
  · split at e
    · rename_i z; cases e; cases hd with | p t => cases t; exact ⟨z, rfl⟩
    · cases e
  · exact gen hd e
def truR (d : D) : Sta → Res Bool := fun s => match truB d s with
  | some b => .ok b s
  | none => .bad
/-- an expression as a test, by its truth -/
theorem dt_tru (ha : DE X G a f) (he : ∀ whole, isTrue a X.env whole = (do let v ← whole; standAt a.pos; holding [v] (truthy v)) := by intro _; rfl) : DT X G a (bnd f truR) :=
  PTi (pt_truth ha he) fun σ H Q ⟨w, s, W, h⟩ => ⟨w, s, W, h.bind fun d s1 v w1 H1 m1 W1 r1 h1 => by
    unfold truR at h1
    split at h1
    · rename_i k e
      exact ⟨k, tru_of W1 r1 e, Post.here (R := RB) W1 rfl h1⟩
    · exact h1.elim⟩
def isBl (d : D) : Sta → Res Bool := fun s => match d with
  | .p (.bl b) => .ok b s
  | _ => .bad
theorem blOf {d : D} {v : V} {Q : Bool → Hp → Prop} (W : Wd X.K X.mg G.B w σ s H) (hd : Vd X.K H w d v) (h : Post X G RB σ w H (isBl d s) Q) : ∃ k, v = .bl k ∧ Q k H := by
  unfold isBl at h
  split at h
  · cases hd with | p t => cases t; exact ⟨_, rfl, Post.here (R := RB) W rfl h⟩
  · exact h.elim
/-- an == and the like as a test -/
theorem dt_cmp {op : CmpOp} {r : R2} {k : D → D → Ev} (ho : OpR X (compareOp op) r) (hm : behindInMarks op b = false) (hk : U2 X G r k) (ha : DE X G a f) (hb : DE X G b g) : DT X G (.Compare a [op] [b] pos) (bnd (bnd2 f g k) isBl) :=
  PTi (pt_cmpR ho ha hb hm) fun σ H Q ⟨w, s, W, h⟩ => ⟨w, s, W, by
    have h : Post X G RB σ w H (bnd f (fun a s => bnd (bnd g fun b => k a b) isBl s) s) Q := by
      have : bnd (bnd2 f g k) isBl s = bnd f (fun a s => bnd (bnd g fun b => k a b) isBl s) s := by
        unfold bnd2 bnd
        cases f s <;> rfl
      rw [← this]; exact h
    refine h.bind fun a s1 v w1 H1 m1 W1 r1 h1 => ⟨w1, s1, W1, ?_⟩
    have h1 : Post X G RB σ w1 H1 (bnd g (fun b s => bnd (k a b) isBl s) s1) Q := by
      have : bnd (bnd g fun b => k a b) isBl s1 = bnd g (fun b s => bnd (k a b) isBl s) s1 := by
        unfold bnd
        cases g s1 <;> rfl
      rw [← this]; exact h1
    exact h1.bind fun b s2 u w2 H2 m2 W2 r2 h2 => hk _ _ _ _ _ _ _ _ _ W2 (r1.mono m2) r2 (h2.bind (R := RD X) fun d s3 x w3 H3 m3 W3 r3 h3 => blOf W3 r3 h3)⟩
theorem dt_eq (hu : X.A.units + 64 < cLine) (ha : DE X G a f) (hb : DE X G b g) : DT X G (.Compare a [.Eq] [b] pos) (bnd (bnd2 f g eqD) isBl) := dt_cmp (op_eqP hu) (nomark _) u_eq ha hb
theorem dt_ne (hu : X.A.units + 64 < cLine) (ha : DE X G a f) (hb : DE X G b g) : DT X G (.Compare a [.NotEq] [b] pos) (bnd (bnd2 f g neD) isBl) := dt_cmp (op_neP hu) (nomark _) u_ne ha hb
theorem dt_lt (ha : DE X G a f) (hb : DE X G b g) : DT X G (.Compare a [.Lt] [b] pos) (bnd (bnd2 f g ltD) isBl) := dt_cmp op_lt (nomark _) (u_int0 fun _ _ _ _ => .bl _) ha hb
theorem dt_le (ha : DE X G a f) (hb : DE X G b g) : DT X G (.Compare a [.LtE] [b] pos) (bnd (bnd2 f g leD) isBl) := dt_cmp op_le (nomark _) (u_int0 fun _ _ _ _ => .bl _) ha hb
theorem dt_gt (ha : DE X G a f) (hb : DE X G b g) : DT X G (.Compare a [.Gt] [b] pos) (bnd (bnd2 f g gtD) isBl) := dt_cmp op_gt (nomark _) (u_int0 fun _ _ _ _ => .bl _) ha hb
theorem dt_ge (ha : DE X G a f) (hb : DE X G b g) : DT X G (.Compare a [.GtE] [b] pos) (bnd (bnd2 f g geD) isBl) := dt_cmp op_ge (nomark _) (u_int0 fun _ _ _ _ => .bl _) ha hb
theorem dt_is (ha : DE X G a f) (hb : DE X G b g) : DT X G (.Compare a [.Is] [b] pos) (bnd (bnd2 f g isD) isBl) := dt_cmp (op_isN.or op_is_bl) (nomark _) u_is ha hb
theorem dt_isnt (ha : DE X G a f) (hb : DE X G b g) : DT X G (.Compare a [.IsNot] [b] pos) (bnd (bnd2 f g isntD) isBl) := dt_cmp (op_notN.or op_isnot_bl) (nomark _) u_isnt ha hb
theorem dt_in (hu : X.A.units + 64 < cLine) (ha : DE X G a f) (hb : DE X G b g) (hm : behindInMarks .In b = false := by rfl) : DT X G (.Compare a [.In] [b] pos) (bnd (bnd2 f g (inD false)) isBl) := dt_cmp ((op_inS false).or ((op_inP hu).or (op_inK hu))) hm (u_in false) ha hb
theorem dt_notIn (hu : X.A.units + 64 < cLine) (ha : DE X G a f) (hb : DE X G b g) (hm : behindInMarks .NotIn b = false := by rfl) : DT X G (.Compare a [.NotIn] [b] pos) (bnd (bnd2 f g (inD true)) isBl) := dt_cmp ((op_inS true).or ((op_notInP hu).or (op_notInK hu))) hm (u_in true) ha hb
end
end Dz
namespace Dz
open PySem PySem.Spec PyProof.Rows L2
section
variable {X : Cx} {G : Env} {σ : L2.St} {w w1 : Wo} {H H1 : Hp} {s s1 : Sta} {K : PySem.W.Frag} {mg : Str → Option Value} {B : Ba}
variable {a b c : Expr} {f g h : Ev} {pos : Pos} {rest : List Expr}
/-! ### and, or, not, if as values -/
def andE (f g : Ev) : Ev := bnd f fun d s => match truB d s with
  | some true => g s
  | some false => .ok d s
  | none => .bad
def orE (f g : Ev) : Ev := bnd f fun d s => match truB d s with
  | some true => .ok d s
  | some false => g s
  | none => .bad
def notE (f : Ev) : Ev := bnd f fun d s => match truB d s with
  | some b => .ok (.p (.bl (!b))) s
  | none => .bad
theorem de_one {op : BoolOp} (ha : DE X G a f) : DE X G (.BoolOp op [a] pos) f := pe_one ha
theorem de_and (ha : DE X G a f) (hb : DE X G (.BoolOp .And (b :: rest) pos) g) : DE X G (.BoolOp .And (a :: b :: rest) pos) (andE f g) :=
  PEi (pe_andT ha hb) fun σ H Q ⟨w, s, W, h⟩ => ⟨w, s, W, h.bind fun d s1 v w1 H1 m1 W1 r1 h1 => by
    split at h1
    · rename_i e; exact ⟨true, tru_of W1 r1 e, iteT ⟨w1, s1, W1, h1⟩⟩
    · rename_i e; exact ⟨false, tru_of W1 r1 e, iteF (Post.here W1 r1 h1)⟩
    · exact h1.elim⟩
theorem de_or (ha : DE X G a f) (hb : DE X G (.BoolOp .Or (b :: rest) pos) g) : DE X G (.BoolOp .Or (a :: b :: rest) pos) (orE f g) :=
  PEi (pe_orT ha hb) fun σ H Q ⟨w, s, W, h⟩ => ⟨w, s, W, h.bind fun d s1 v w1 H1 m1 W1 r1 h1 => by
    split at h1
    · rename_i e; exact ⟨true, tru_of W1 r1 e, iteT (Post.here W1 r1 h1)⟩
    · rename_i e; exact ⟨false, tru_of W1 r1 e, iteF ⟨w1, s1, W1, h1⟩⟩
    · exact h1.elim⟩
theorem de_not (ha : DE X G a f) : DE X G (.UnaryOp .Not a pos) (notE f) :=
  PEi (pe_notT ha) fun σ H Q ⟨w, s, W, h⟩ => ⟨w, s, W, h.bind fun d s1 v w1 H1 m1 W1 r1 h1 => by
    split at h1
    · rename_i k e; exact ⟨k, tru_of W1 r1 e, Post.here W1 (.p (.bl _)) h1⟩
    · exact h1.elim⟩
/-! ### as tests -/
def DW (X : Cx) (G : Env) (e : Expr) (f : Sta → Res Bool) : Prop := PW X e (tT X G f)
theorem PWi {X : Cx} {e : Expr} {t t' : TT} (h : PW X e t) (k : ∀ σ H Q, t' σ H Q → t σ H Q) : PW X e t' := ⟨fun wh pins s σ H Q I q => h.run wh pins s σ H Q I (k σ H Q q)⟩
def andT (f g : Sta → Res Bool) : Sta → Res Bool := bnd f fun b s => if b = true then g s else .ok false s
def orT (f g : Sta → Res Bool) : Sta → Res Bool := bnd f fun b s => if b = true then .ok true s else g s
def notT (f : Sta → Res Bool) : Sta → Res Bool := bnd f fun b s => .ok (!b) s
variable {ft gt : Sta → Res Bool}
theorem dt_w (h : DW X G a ft) : DT X G a ft := h.pt
theorem dw_and1 (ha : DT X G a ft) : DW X G (.BoolOp .And [a] pos) ft := pw_and1 ha
theorem dw_or1 (ha : DT X G a ft) : DW X G (.BoolOp .Or [a] pos) ft := pw_or1 ha
theorem dw_and (ha : DT X G a ft) (hb : DW X G (.BoolOp .And (b :: rest) pos) gt) : DW X G (.BoolOp .And (a :: b :: rest) pos) (andT ft gt) :=
  PWi (pw_and ha hb) fun σ H Q ⟨w, s, W, h⟩ => ⟨w, s, W, h.bind fun d s1 v w1 H1 m1 W1 r1 h1 => by
    cases (show d = v from r1)
    cases d with
    | true => exact iteT ⟨w1, s1, W1, h1⟩
    | false => exact iteF (Post.here (R := RB) W1 rfl h1)⟩
theorem dw_or (ha : DT X G a ft) (hb : DW X G (.BoolOp .Or (b :: rest) pos) gt) : DW X G (.BoolOp .Or (a :: b :: rest) pos) (orT ft gt) :=
  PWi (pw_or ha hb) fun σ H Q ⟨w, s, W, h⟩ => ⟨w, s, W, h.bind fun d s1 v w1 H1 m1 W1 r1 h1 => by
    cases (show d = v from r1)
    cases d with
    | true => exact iteT (Post.here (R := RB) W1 rfl h1)
    | false => exact iteF ⟨w1, s1, W1, h1⟩⟩
theorem dt_not (ha : DT X G a ft) : DT X G (.UnaryOp .Not a pos) (notT ft) :=
  PTi (pt_not ha) fun σ H Q ⟨w, s, W, h⟩ => ⟨w, s, W, h.bind fun d s1 v w1 H1 m1 W1 r1 h1 => by
    cases (show d = v from r1)
    exact Post.here (R := RB) W1 rfl h1⟩
def ifE (t : Sta → Res Bool) (f g : Ev) : Ev := bnd t fun b s => if b = true then f s else g s
theorem de_if (hc : DT X G c ft) (ha : DE X G a f) (hb : DE X G b g) : DE X G (.IfExp c a b pos) (ifE ft f g) :=
  PEi (pe_ifExp hc ha hb) fun σ H Q ⟨w, s, W, h⟩ => ⟨w, s, W, h.bind fun d s1 v w1 H1 m1 W1 r1 h1 => by
    cases (show d = v from r1)
    cases d with
    | true => exact iteT ⟨w1, s1, W1, h1⟩
    | false => exact iteF ⟨w1, s1, W1, h1⟩⟩
/-! ### a < b < c -/
def chainE (f : Ev) (k : D → D → Ev) (g : Ev) (k' : D → D → Ev) (h : Ev) : Ev := bnd f fun a => bnd g fun b => bnd (k a b) fun z s => match z with
  | .p (.bl true) => bnd h (fun c => k' b c) s
  | .p (.bl false) => .ok (.p (.bl false)) s
  | _ => .bad
theorem chain_at {op op' : CmpOp} {r r' : R2} {k k' : D → D → Ev} (hk : U2 X G r k) (hk' : U2 X G r' k') {Q : VK} (W : Wd X.K X.mg G.B w σ s H) (h' : Post X G (RD X) σ w H (chainE f k g k' h s) Q) : tChain r r' (tE X G f) (tE X G g) (tE X G h) σ H Q :=
  ⟨w, s, W, h'.bind fun a s1 v w1 H1 m1 W1 r1 h1 => ⟨w1, s1, W1, h1.bind fun b s2 u w2 H2 m2 W2 r2 h2 => hk _ _ _ _ _ _ _ _ _ W2 (r1.mono m2) r2 (h2.bind (R := RD X) fun z s3 x w3 H3 m3 W3 r3 h3 => by
    split at h3
    · cases r3 with
      | p t =>
        cases t
        exact ⟨true, rfl, iteT ⟨w3, s3, W3, h3.bind fun c s4 y w4 H4 m4 W4 r4 h4 => hk' _ _ _ _ _ _ _ _ _ W4 ((r2.mono m3).mono m4) r4 h4⟩⟩
    · cases r3 with
      | p t =>
        cases t
        exact ⟨false, rfl, iteF (Post.here W3 (.p (.bl _)) h3)⟩
    · exact h3.elim)⟩⟩
theorem de_chain {op op' : CmpOp} {r r' : R2} {k k' : D → D → Ev} (ho : OpR X (compareOp op) r) (hk : U2 X G r k) (ho' : OpR X (compareOp op') r') (hk' : U2 X G r' k') (ha : DE X G a f) (hb : DE X G b g) (hc : DE X G c h)
    (hm : lastMarks [op, op'] [b, c] = false := by with_unfolding_all rfl) : DE X G (.Compare a [op, op'] [b, c] pos) (chainE f k g k' h) :=
  PEi (pe_chain ho ho' ha hb hc hm) fun σ H Q ⟨w, s, W, h'⟩ => chain_at (op := op) (op' := op') hk hk' W h'
theorem dt_chain {op op' : CmpOp} {r r' : R2} {k k' : D → D → Ev} (ho : OpR X (compareOp op) r) (hk : U2 X G r k) (ho' : OpR X (compareOp op') r') (hk' : U2 X G r' k') (ha : DE X G a f) (hb : DE X G b g) (hc : DE X G c h)
    (hm : lastMarks [op, op'] [b, c] = false := by with_unfolding_all rfl) : DT X G (.Compare a [op, op'] [b, c] pos) (bnd (chainE f k g k' h) isBl) :=
  PTi (pt_chain ho ho' ha hb hc hm) fun σ H Q ⟨w, s, W, h'⟩ => chain_at (op := op) (op' := op') hk hk' W (h'.bind (R := RD X) fun d s1 v w1 H1 m1 W1 r1 h1 => blOf W1 r1 h1)
theorem u_lt : U2 X G (rI0 fun i j => .bl (decide (i < j))) ltD := u_int0 fun _ _ _ _ => .bl _
theorem u_le : U2 X G (rI0 fun i j => .bl (decide (i ≤ j))) leD := u_int0 fun _ _ _ _ => .bl _
theorem u_gt : U2 X G (rI0 fun i j => .bl (decide (j < i))) gtD := u_int0 fun _ _ _ _ => .bl _
theorem u_ge : U2 X G (rI0 fun i j => .bl (decide (j ≤ i))) geD := u_int0 fun _ _ _ _ => .bl _

/-! ### d[k] -/
def rIxK : R2 := fun x y H Q => ∃ a v, x = .ref a ∧ DGet H a y (some v) ∧ Q v H
theorem ix_dict (hu : X.A.units + 64 < cLine) : IxR X rIxK := by
  intro value slice pins s σ H x y v u Q I rx ry h hs
  obtain ⟨a, z, rfl, g, q⟩ := h
  cases rx
  have hT := dict_typeIs I g
  unfold subscriptTail
  refine wpAny_bind ?_
  rw [getitemInPython_of_ne hT.not_modules]
  refine wpAny_bind (wpAny_specialOf hT PySem.F.slot_dict_getitem.lookup ?_)
  have fin : wpAny (model X.prog X.w) X.A (subscripted slice false (.ref a) u) (fun r s' => wpAny (model X.prog X.w) X.A (letTemporaryGo value (.ref a) r >>= fun _ => pure r) (EP X pins σ Q) X.xe s') X.xe s := by
    rw [hs]
    exact wpAny_operating (d_getItem (by omega) I g ry fun w' s' I' rw' => wpAny_bind (wpAny_letTemporaryGo (wpAny_pure ⟨z, H, I', rw', q⟩)))
  first
    | exact wpAny_pure (wpAny_bind fin)
    | exact wpAny_bind (wpAny_pure (wpAny_bind fin))
    | exact wpAny_bind fin
def ixO (d e : D) (s : Sta) : Option D := match d, e with
  | .p (.str z), .p (.int i) => if z.length ≤ sizeLine then (atI z.cps.toList i).map fun c => .p (.str ⟨#[c]⟩) else none
  | d, .p e => match seqOf d s with
    | some ds => match e with
      | .int i => atI ds i
      | _ => none
    | none => match dicOf d s with
      | some kvs => (keyP e).bind fun k => getK kvs k
      | none => match dctOf d s with
        | some kvs => (keysP e).bind fun k => getK kvs k
        | none => none
  | _, _ => none
def ixD : D → D → Ev := fun d e s => match ixO d e s with
  | some x => .ok x s
  | none => .bad
theorem VdL.atI {ds : List D} {vs : List V} {i : Int} {d : D} (t : VdL K H w ds vs) (e : atI ds i = some d) : ∃ v, L2.atI vs i = some v ∧ Vd K H w d v := by
  unfold L2.atI at e ⊢
  rw [t.len] at e
  cases ej : ixN vs.length i with
  | none => rw [ej] at e; cases e
  | some j =>
    rw [ej] at e
    exact t.at e
def rIxD (K : PySem.W.Frag) : R2 := fun x y H Q => rIx K x y H Q ∨ rIxK x y H Q
theorem u_ix : U2 X G (rIxD X.K) ixD := by
  intro σ w s H d e v u Q W hd he h
  unfold ixD at h
  split at h
  · rename_i x ex
    unfold ixO at ex
    split at ex
    · split at ex
      · rename_i hz
        obtain ⟨c, hc, rfl⟩ := Option.map_eq_some_iff.mp ex
        cases hd with
        | p t =>
          cases t
          cases he with
          | p t => cases t; exact .inl (.inr (.inr ⟨_, _, c, rfl, rfl, hz, hc, Post.here W (.p (.str _)) h⟩))
      · cases ex
    · rename_i e'
      cases he with
      | @p x _ t =>
        split at ex
        · rename_i ds es
          obtain ⟨a, vs, rfl, hq, tl⟩ := seq_at W hd es
          split at ex
          · rename_i i
            cases t
            obtain ⟨z, hz, vz⟩ := tl.atI ex
            rcases hq with hq | hq
            · exact .inl (.inl ⟨a, vs, i, z, rfl, rfl, hq, hz, Post.here W vz h⟩)
            · exact .inl (.inr (.inl ⟨a, vs, i, z, rfl, rfl, hq, hz, Post.here W vz h⟩))
          · cases ex
        · split at ex
          · rename_i kvs ek
            obtain ⟨a, vs, rfl, hq, tl⟩ := dic_at W hd ek
            obtain ⟨k, kk, eg⟩ := Option.bind_eq_some_iff.mp ex
            rcases getK_v tl k with ⟨h1, _⟩ | ⟨d', z, h1, h2, h3⟩
            · rw [h1] at eg; cases eg
            · rw [h1] at eg; cases eg
              cases key_v t kk
              exact .inr ⟨a, z, rfl, by rw [← h2]; exact .inl ⟨_, _, hq, rfl, rfl⟩, Post.here W h3 h⟩
          · split at ex
            · rename_i kvs ek
              obtain ⟨a, vs, rfl, hq, tl⟩ := dct_at W hd ek
              obtain ⟨k, kk, eg⟩ := Option.bind_eq_some_iff.mp ex
              rcases getK_v tl k with ⟨h1, _⟩ | ⟨d', z, h1, h2, h3⟩
              · rw [h1] at eg; cases eg
              · rw [h1] at eg; cases eg
                obtain ⟨c, rfl, hc⟩ := keysP_at t kk
                exact .inr ⟨a, z, rfl, by rw [← h2]; exact .inr ⟨_, _, _, hq, rfl, hc, rfl⟩, Post.here W h3 h⟩
            · cases ex
    · cases ex
  · exact h.elim
theorem de_ix (hu : X.A.units + 64 < cLine) (ha : DE X G a f) (hb : DE X G b g) (hs : PlainIx b := by exact fun _ _ => rfl) : DE X G (.Subscript a b pos) (bnd2 f g ixD) :=
  PEi (pe_ix (ix_seq.or (ix_dict hu)) ha hb hs) fun σ H Q ⟨w, s, W, h⟩ => ⟨w, s, W, h.bind fun a s1 v w1 H1 m1 W1 r1 h1 => ⟨w1, s1, W1, h1.bind fun b s2 u w2 H2 m2 W2 r2 h2 => u_ix _ _ _ _ _ _ _ _ _ W2 (r1.mono m2) r2 h2⟩⟩
end
end Dz
namespace Dz
open PySem PySem.Spec PyProof.Rows L2
section
variable {X : Cx} {G : Env} {σ : L2.St} {w w1 w' : Wo} {H H1 H' : Hp} {s s1 : Sta} {K : PySem.W.Frag} {mg : Str → Option Value} {B : Ba}
variable {a b c e : Expr} {es : List Expr} {f g h : Ev} {pos p2 : Pos} {rest : List Expr}
/-! ### slices -/
def tO (X : Cx) (G : Env) (f : Sta → Res (Option Int)) : TO := fun σ H Q => ∃ w s, Wd X.K X.mg G.B w σ s H ∧ Post X G (fun _ _ (a b : Option Int) => a = b) σ w H (f s) Q
def DO (X : Cx) (G : Env) (e : Option Expr) (f : Sta → Res (Option Int)) : Prop := PO X e (tO X G f)
theorem POi {e : Option Expr} {t t' : TO} (h : PO X e t) (k : ∀ σ H Q, t' σ H Q → t σ H Q) : PO X e t' := ⟨fun pins s σ H Q I q => h.run pins s σ H Q I (k σ H Q q)⟩
def noPart : Sta → Res (Option Int) := fun s => .ok none s
def isPart (f : Ev) : Sta → Res (Option Int) := bnd f fun d s => match d with
  | .p (.int i) => .ok (some i) s
  | _ => .bad
theorem do_none : DO X G none noPart := POi po_none fun σ H Q ⟨w, s, W, h⟩ => Post.here (R := fun _ _ (a b : Option Int) => a = b) W rfl h
theorem do_some (ha : DE X G a f) : DO X G (some a) (isPart f) := POi (po_some ha) fun σ H Q ⟨w, s, W, h⟩ => ⟨w, s, W, h.bind fun d s1 v w1 H1 m1 W1 r1 h1 => by
  split at h1
  · cases r1 with | p t => cases t; exact ⟨_, rfl, Post.here (R := fun _ _ (a b : Option Int) => a = b) W1 rfl h1⟩
  · exact h1.elim⟩
def cut {α : Type} (xs : List α) (lo hi : Option Int) : List α := (xs.drop (HT.sIx xs.length 0 lo)).take (HT.sIx xs.length xs.length hi - HT.sIx xs.length 0 lo)
def slD : D → Option Int → Option Int → Ev
  | .p (.lst xs), lo, hi => cst (.p (.lst (cut xs lo hi)))
  | .fz xs, lo, hi => cst (.p (.lst (cut xs lo hi)))
  | .p (.tup xs), lo, hi => cst (.p (.tup (cut xs lo hi)))
  | .p (.str z), lo, hi => okIf (decide (z.length ≤ sizeLine)) (.p (.str (cutS z lo hi)))
  | _, _, _ => bad1
def rSlD (K : PySem.W.Frag) : V → Option Int → Option Int → Hp → VK → Prop := fun x lo hi H Q => rSlL K x lo hi H Q ∨ (rSlA K x lo hi H Q ∨ rSlS x lo hi H Q)
theorem TdL.cut {J : Addr → Prop} {xs : List P} {vs : List V} (t : TdL K false H J xs vs) (lo hi : Option Int) : TdL K false H J (Dz.cut xs lo hi) (cutV vs lo hi) := by
  unfold Dz.cut cutV
  rw [t.len]
  exact (t.drop _).take _
theorem u_sl {d : D} {v : V} {lo hi : Option Int} {Q : VK} (W : Wd X.K X.mg G.B w σ s H) (hd : Vd X.K H w d v) (h : Post X G (RD X) σ w H (slD d lo hi s) Q) : rSlD X.K v lo hi H Q := by
  cases hd with
  | p t =>
    cases t with
    | lst h1 h2 t => exact .inl ⟨_, _, rfl, .of h1, fun p np => Post.newL W (t.cut lo hi) np h⟩
    | @tup a xs vs h1 t =>
      refine .inr (.inl ⟨_, _, rfl, .of h1, fun z => ?_, fun _ p np => Post.newT W (t.cut lo hi) np h⟩)
      have e : Dz.cut xs lo hi = xs := by
        unfold Dz.cut
        rw [t.len, z.1, z.2, ← t.len]
        simp
      have h : Post X G (RD X) σ w H (.ok (.p (.tup (Dz.cut xs lo hi))) s) Q := h
      rw [e] at h
      exact Post.here W (.p (.tup h1 t)) h
    | str z =>
      obtain ⟨c, h⟩ := okIf_post h
      exact .inr (.inr ⟨_, rfl, of_decide_eq_true c, Post.here W (.p (.str _)) h⟩)
    | tupK hq _ _ => cases hq
    | _ => exact h.elim
  | fz h1 t => exact .inl ⟨_, _, rfl, h1.sq, fun p np => Post.newL W (t.cut lo hi) np h⟩
  | _ => exact h.elim
theorem SlR.or' {r r' : V → Option Int → Option Int → Hp → VK → Prop} (h : L2.SlR X r) (h' : L2.SlR X r') : L2.SlR X (fun x lo hi H Q => r x lo hi H Q ∨ r' x lo hi H Q) := h.or h'
def slE (f : Ev) (l u : Sta → Res (Option Int)) : Ev := bnd f fun d => bnd l fun lo => bnd u fun hi => slD d lo hi
theorem de_sl {lo hi : Option Expr} {l u : Sta → Res (Option Int)} (ha : DE X G a f) (hl : DO X G lo l) (hu : DO X G hi u) : DE X G (.Subscript a (.Slice lo hi none p2) pos) (slE f l u) :=
  PEi (pe_slice (sl_list.or (sl_tupA.or sl_str)) ha hl hu) fun σ H Q ⟨w, s, W, h⟩ => ⟨w, s, W, h.bind fun d s1 v w1 H1 m1 W1 r1 h1 => ⟨w1, s1, W1, h1.bind fun l s2 l' w2 H2 m2 W2 r2 h2 => by
    cases (show l = l' from r2)
    exact ⟨w2, s2, W2, h2.bind fun u s3 u' w3 H3 m3 W3 r3 h3 => by
      cases (show u = u' from r3)
      exact u_sl W3 ((r1.mono m2).mono m3) h3⟩⟩⟩
/-! ### argument lists -/
def nilA : Sta → Res (List D) := fun s => .ok [] s
def consA (f : Ev) (g : Sta → Res (List D)) : Sta → Res (List D) := bnd f fun d => bnd g fun ds s => .ok (d :: ds) s
def starA (f : Ev) (g : Sta → Res (List D)) : Sta → Res (List D) := bnd f fun d s => match seqOf d s with
  | some xs => bnd g (fun ds s => .ok (xs ++ ds) s) s
  | none => .bad
theorem VdL.app : ∀ {xs ys : List D} {vs us : List V}, VdL K H w xs vs → VdL K H w ys us → VdL K H w (xs ++ ys) (vs ++ us)
  | _, _, _, _, .nil, h => h
  | _, _, _, _, .cons a t, h => .cons a (VdL.app t h)
variable {fa : Sta → Res (List D)}
theorem da_nil : DA X G [] nilA := PAi pa_nil fun σ H Q ⟨w, s, W, h⟩ => Post.here (R := RA X) W VdL.nil h
theorem da_cons (ha : DE X G a f) (hr : DA X G es fa) (hs : starEach (a :: es) X.env = (false, eval a X.env) :: starEach es X.env := by rfl) : DA X G (a :: es) (consA f fa) :=
  PAi (pa_cons ha hr hs) fun σ H Q ⟨w, s, W, h⟩ => ⟨w, s, W, h.bind fun d s1 v w1 H1 m1 W1 r1 h1 => ⟨w1, s1, W1, h1.bind fun ds s2 vs w2 H2 m2 W2 r2 h2 => Post.here (R := RA X) W2 (VdL.cons (r1.mono m2) r2) h2⟩⟩
theorem da_star {p : Pos} (ha : DE X G a f) (hr : DA X G es fa) (hs : starEach (.Starred a p :: es) X.env = (true, eval a X.env) :: starEach es X.env := by rfl) : DA X G (.Starred a p :: es) (starA f fa) :=
  PAi (StX.pa_star ha hr hs) fun σ H Q ⟨w, s, W, h⟩ => ⟨w, s, W, h.bind fun d s1 v w1 H1 m1 W1 r1 h1 => by
    split at h1
    · rename_i xs es
      obtain ⟨p, vs, rfl, hq, tl⟩ := seq_at W1 r1 es
      exact ⟨p, vs, rfl, hq.symm, w1, s1, W1, h1.bind fun ds s2 us w2 H2 m2 W2 r2 h2 => Post.here (R := RA X) W2 ((tl.mono m2).app r2) h2⟩
    · exact h1.elim⟩
/-! ### new lists and dicts -/
/-- what no other thing knows -/
def PostF (X : Cx) (G : Env) (σ : L2.St) (w : Wo) (H : Hp) (r : Res Lin) (Q : VK) : Prop :=
  match r with
  | .ok m s' => ∀ a w' H', Mono w H w' H' → Wd X.K X.mg G.B w' σ s' H' → LOk X.K H' w'.I a m → a ∉ w'.ρ → ¬ w'.I a → G.B.H a = none → (∀ i : Nat, isLin s'.sl[i]? = true → σ[i]? ≠ some (some (.ref a))) → Q (.ref a) H'
  | .ex c fs => ∀ cls dx w' H', Ext G.B.w G.B.H w' H' → Sound w' H' → XV X.K X.mg H' w' c fs cls dx → G.E cls dx H'
  | .bad => False
def tF (X : Cx) (G : Env) (f : Sta → Res Lin) : TE := fun σ H Q => ∃ w s, Wd X.K X.mg G.B w σ s H ∧ PostF X G σ w H (f s) Q
def DF (X : Cx) (G : Env) (e : Expr) (f : Sta → Res Lin) : Prop := PE X e (tF X G f)
theorem PostF.at {r : Res Lin} {Q : VK} (m : Mono w H w1 H1) (h : PostF X G σ w H r Q) : PostF X G σ w1 H1 r Q := by
  cases r with
  | ok a s' => exact fun b w' H' m' => h b w' H' (m.trans m')
  | ex c fs => exact h
  | bad => exact h
theorem PostF.bind {α γ : Type} {R : Hp → Wo → α → γ → Prop} {f : Sta → Res α} {g : α → Sta → Res Lin} {Q : VK} {Q1 : γ → Hp → Prop} (h : PostF X G σ w H (Dz.bnd f g s) Q)
    (k : ∀ a s1 b w1 H1, Mono w H w1 H1 → Wd X.K X.mg G.B w1 σ s1 H1 → R H1 w1 a b → PostF X G σ w1 H1 (g a s1) Q → Q1 b H1) : Post X G R σ w H (f s) Q1 := by
  unfold Dz.bnd at h
  cases e : f s with
  | ok a s' =>
    rw [e] at h
    exact fun b w' H' m W r => k a s' b w' H' m W r (h.at m)
  | ex c fs => rw [e] at h; exact h
  | bad => rw [e] at h; exact h
theorem Wd.linAddr {i : Nat} (W : Wd K mg B w σ s H) (h : isLin s.sl[i]? = true) : ∃ a m, σ[i]? = some (some (.ref a)) ∧ LOk K H w.I a m ∧ a ∉ w.ρ ∧ ¬ w.I a ∧ B.H a = none := by
  cases e : s.sl[i]? with
  | none => rw [e] at h; cases h
  | some x =>
    cases x with
    | lin m =>
      obtain ⟨a, e1, h1, h2, h3, h4⟩ := W.sl i _ e
      exact ⟨a, m, e1, h1, h2, h3, h4⟩
    | un => rw [e] at h; cases h
    | v d => rw [e] at h; cases h
/-- a new thing, not yet anywhere -/
theorem Wd.bare {p : Addr} {o : HO} (W : Wd K mg B w σ s H) (np : H p = none) : Mono w H w (upd H p o) ∧ Wd K mg B w σ s (upd H p o) ∧ p ∉ w.ρ ∧ ¬ w.I p ∧ B.H p = none ∧ ∀ i : Nat, isLin s.sl[i]? = true → σ[i]? ≠ some (some (.ref p)) := by
  have nr : p ∉ w.ρ := fun z => W.snd.rt p z np
  have ni : ¬ w.I p := fun z => W.snd.it p z np
  have x : Ext w H w (upd H p o) := by
    refine ⟨fun a u e _ => upd_keep np a u e, fun _ _ e => e, fun _ h => .inl h, fun _ h => h, fun _ h => .inl h, fun a h => ?_, fun a xs e => upd_keep np a _ e⟩
    cases e : H a with
    | none => rfl
    | some u => rw [upd_keep np a u e] at h; cases h
  have sn : Sound w (upd H p o) := by
    refine ⟨W.snd.nd, fun a h z => ?_, W.snd.ri, fun a h z => ?_⟩
    · exact W.snd.rt a h (x.there a z)
    · exact W.snd.it a h (x.there a z)
  have m := x.mono W.snd
  refine ⟨m, W.step x sn (W.sto.mono (fun a u e => upd_keep np a u e) m rfl), nr, ni, W.ext.there p np, fun i hi z => ?_⟩
  obtain ⟨a, _, e1, h1, _⟩ := W.linAddr hi
  rw [e1] at z
  cases z
  exact h1.there np
theorem PostF.new {p : Addr} {o : HO} {m : Lin} {Q : VK} (W : Wd X.K X.mg G.B w σ s H) (np : H p = none) (hl : Mono w H w (upd H p o) → LOk X.K (upd H p o) w.I p m) (h : PostF X G σ w H (.ok m s) Q) : Q (.ref p) (upd H p o) := by
  obtain ⟨mo, W', h1, h2, h3, h4⟩ := W.bare (o := o) np
  exact h p w _ mo W' (hl mo) h1 h2 h3 h4
/-- it is known from now on, and not changed any more -/
theorem Wd.addI {a : Addr} (W : Wd K mg B w σ s H) (n1 : a ∉ w.ρ) (t : H a ≠ none) (n3 : B.H a = none) (n4 : ∀ i : Nat, isLin s.sl[i]? = true → σ[i]? ≠ some (some (.ref a))) : Wd K mg B (w.add a) σ s H where
  ext := by
    refine ⟨W.ext.keep, W.ext.pre, W.ext.newr, fun b hb => .inl (W.ext.imm b hb), fun b hb => ?_, W.ext.there, W.ext.tup⟩
    rcases hb with hb | rfl
    · exact W.ext.newi b hb
    · exact .inr n3
  snd := W.snd.add n1 t
  sb := W.sb
  sto := W.sto.mono (fun _ _ e => e) .add rfl
  sl := fun j x ej => by
    have h := W.sl j x ej
    cases x with
    | un => trivial
    | v d => obtain ⟨v, e1, h1⟩ := h; exact ⟨v, e1, h1.mono .add⟩
    | lin l' =>
      obtain ⟨b, e1, h1, h2, h3, h4⟩ := h
      refine ⟨b, e1, h1.mono (fun _ e => e) (.sub fun _ h => .inl h), h2, fun z => ?_, h4⟩
      rcases z with z | rfl
      · exact h3 z
      · exact n4 j (by rw [ej]; rfl) e1
  len := W.len
  two := W.two
def frozen : Lin → D
  | .lst xs => .p (.lst xs)
  | .dic kvs => .dic kvs
  | .dct kvs => .dct kvs
theorem frozen_vd {a : Addr} {m : Lin} (l : LOk K H w.I a m) : Vd K H (w.add a) (frozen m) (.ref a) := by
  have k : MI H w.I H (w.add a).I := .sub fun _ h => .inl h
  cases l with
  | lst h t => exact .p (.lst h (.inr rfl) (t.mono k))
  | dic h t => exact .dic (.inl h) (.inr rfl) (t.mono k)
  | dct h t => exact .dct (.inl h) (.inr rfl) (t.mono k)
def frz (f : Sta → Res Lin) : Ev := bnd f fun m s => .ok (frozen m) s
theorem de_frz {fl : Sta → Res Lin} (h : DF X G e fl) : DE X G e (frz fl) :=
  PEi h fun σ H Q ⟨w, s, W, h⟩ => ⟨w, s, W, by
    unfold frz bnd at h
    revert h
    cases fl s with
    | bad => exact fun z => z
    | ex c fs => exact fun z => z
    | ok m s' => exact fun h a w' H' mo W' l n1 n2 n3 n4 => h (.ref a) (w'.add a) H' (mo.trans .add) (W'.addI n1 l.there n3 n4) (frozen_vd l)⟩
/-- an object of the store -/
def Wo.put (w : Wo) (a : Addr) : Wo := ⟨w.ρ ++ [a], w.I⟩
theorem Mono.put {a : Addr} : Mono w H (w.put a) H := ⟨.sub fun _ h => h, fun n b e => by
  have : n < w.ρ.length := (List.getElem?_eq_some_iff.mp e).1
  show (w.ρ ++ [a])[n]? = some b
  rw [List.getElem?_append_left this]; exact e⟩
theorem Wd.put {a : Addr} {m : MO} {S : List MO} (W : Wd K mg B w σ s H) (es : s.st = some S) (l : MOk K mg H w a m) (n1 : a ∉ w.ρ) (n2 : ¬ w.I a) (n3 : B.H a = none) (n4 : ∀ i : Nat, isLin s.sl[i]? = true → σ[i]? ≠ some (some (.ref a))) :
    Wd K mg B (w.put a) σ ⟨s.sl, some (S ++ [m])⟩ H ∧ (w.put a).ρ[S.length]? = some a := by
  have st := W.sto
  rw [es] at st
  have hl : w.ρ.length = S.length := st.1
  have mo : Mono w H (w.put a) H := .put
  refine ⟨⟨?_, ?_, W.sb, ?_, fun j x ej => ?_, W.len, W.two⟩, ?_⟩
  · refine ⟨W.ext.keep, fun n b e => mo.pre n b (W.ext.pre n b e), fun b hb => ?_, W.ext.imm, W.ext.newi, W.ext.there, W.ext.tup⟩
    rcases List.mem_append.mp hb with hb | hb
    · exact W.ext.newr b hb
    · rw [List.mem_singleton.mp hb]; exact .inr n3
  · refine ⟨?_, fun b hb => ?_, fun b hb => ?_, W.snd.it⟩
    · show (w.ρ ++ [a]).Nodup
      rw [List.nodup_append]
      exact ⟨W.snd.nd, by simp, fun x hx y hy z => by rw [List.mem_singleton.mp hy] at z; subst z; exact n1 hx⟩
    · rcases List.mem_append.mp hb with hb | hb
      · exact W.snd.rt b hb
      · rw [List.mem_singleton.mp hb]; exact l.there
    · rcases List.mem_append.mp hb with hb | hb
      · exact W.snd.ri b hb
      · rw [List.mem_singleton.mp hb]; exact n2
  · refine ⟨by show (w.ρ ++ [a]).length = _; simp [hl], fun n b m' e1 e2 => ?_⟩
    have e1 : (w.ρ ++ [a])[n]? = some b := e1
    by_cases hn : n < S.length
    · rw [List.getElem?_append_left (by omega)] at e1
      rw [List.getElem?_append_left hn] at e2
      exact (st.2 n b m' e1 e2).mono (fun _ e => e) (fun _ e => e) mo
    · have : n = S.length := by
        have := (List.getElem?_eq_some_iff.mp e2).1
        simp at this; omega
      subst this
      rw [List.getElem?_append_right (Nat.le_refl _)] at e2
      rw [List.getElem?_append_right (by omega)] at e1
      simp at e2
      simp [hl] at e1
      subst e1 e2
      exact l.mono (fun _ e => e) (fun _ e => e) mo
  · have h := W.sl j x ej
    cases x with
    | un => trivial
    | v d => obtain ⟨v, e1, h1⟩ := h; exact ⟨v, e1, h1.mono mo⟩
    | lin l' =>
      obtain ⟨b, e1, h1, h2, h3, h4⟩ := h
      refine ⟨b, e1, h1.mono (fun _ e => e) mo.imm, fun z => ?_, h3, h4⟩
      rcases List.mem_append.mp z with z | z
      · exact h2 z
      · rw [List.mem_singleton.mp z] at e1
        exact n4 j (by rw [ej]; rfl) e1
  · show (w.ρ ++ [a])[S.length]? = some a
    rw [← hl, List.getElem?_append_right (Nat.le_refl _)]
    simp
end
end Dz
namespace Dz
open PySem PySem.Spec PyProof.Rows L2
section
variable {X : Cx} {G : Env} {σ σ' : L2.St} {w w1 w' : Wo} {H H1 H' : Hp} {s s1 s' : Sta} {K : PySem.W.Frag} {mg : Str → Option Value} {B : Ba}
variable {a b c e : Expr} {es : List Expr} {f g h : Ev} {pos p2 : Pos} {rest : List Expr}
/-! ### displays -/
def alloc (m : MO) : Ev := fun s => match s.st with
  | some S => .ok (.loc S.length) ⟨s.sl, some (S ++ [m])⟩
  | none => .bad
def mkTup (ds : List D) : Ev := fun s => if ds.length ≤ sizeLine then (match ds.mapM unP with
  | some xs => .ok (.p (.tup xs)) s
  | none => alloc (.tup ds) s) else .bad
def mkLin (ds : List D) : Sta → Res Lin := fun s => if ds.length ≤ sizeLine then (match ds.mapM unP with
  | some xs => .ok (.lst xs) s
  | none => .bad) else .bad
def mkLst (ds : List D) : Ev := fun s => if ds.length ≤ sizeLine then alloc (.lst ds) s else .bad
variable {fa : Sta → Res (List D)}
theorem alloc_at {p : Addr} {o : HO} {m : MO} {Q : VK} (W : Wd X.K X.mg G.B w σ s H) (np : H p = none) (hm : Mono w H w (upd H p o) → MOk X.K X.mg (upd H p o) w p m) (h : Post X G (RD X) σ w H (alloc m s) Q) : Q (.ref p) (upd H p o) := by
  obtain ⟨mo, W', h1, h2, h3, h4⟩ := W.bare (o := o) np
  unfold alloc at h
  split at h
  · rename_i S es
    obtain ⟨W2, hl⟩ := W'.put es (hm mo) h1 h2 h3 h4
    exact h _ _ _ (mo.trans .put) W2 (.loc hl)
  · exact h.elim
theorem de_tup {x1} (ha : DA X G es fa) : DE X G (.Tuple es x1 pos) (bnd fa mkTup) :=
  PEi (pe_tup ha) fun σ H Q ⟨w, s, W, h⟩ => ⟨w, s, W, h.bind fun ds s1 vs w1 H1 m1 W1 r1 h1 => by
    unfold mkTup at h1
    split at h1
    · rename_i hz
      refine ⟨by rw [← VdL.len r1]; exact hz, fun p np => ?_⟩
      split at h1
      · rename_i xs ex
        exact Post.newT W1 (r1.td ex) np h1
      · exact alloc_at W1 np (fun mo => .tup upd_same (r1.mono mo)) h1
    · exact h1.elim⟩
theorem df_lst (ha : DA X G es fa) : DF X G (.List es pos) (bnd fa mkLin) :=
  PEi (pe_lst ha) fun σ H Q ⟨w, s, W, h⟩ => ⟨w, s, W, h.bind fun ds s1 vs w1 H1 m1 W1 r1 h1 => by
    unfold mkLin at h1
    split at h1
    · rename_i hz
      refine ⟨by rw [← VdL.len r1]; exact hz, fun p np => ?_⟩
      split at h1
      · rename_i xs ex
        exact PostF.new W1 np (fun mo => .lst upd_same ((r1.td ex).mono mo.imm)) h1
      · exact h1.elim
    · exact h1.elim⟩
/-- a list display that stands in the store -/
theorem de_lstS (ha : DA X G es fa) : DE X G (.List es pos) (bnd fa mkLst) :=
  PEi (pe_lst ha) fun σ H Q ⟨w, s, W, h⟩ => ⟨w, s, W, h.bind fun ds s1 vs w1 H1 m1 W1 r1 h1 => by
    unfold mkLst at h1
    split at h1
    · rename_i hz
      exact ⟨by rw [← VdL.len r1]; exact hz, fun p np => alloc_at W1 np (fun mo => .lst upd_same (r1.mono mo)) h1⟩
    · exact h1.elim⟩
/-! ### statements -/
def PostS (X : Cx) (G : Env) (w : Wo) (H : Hp) (r : Fl) (D : Ends) : Prop :=
  match r with
  | .nx s' => ∀ σ' w' H', Mono w H w' H' → Wd X.K X.mg G.B w' σ' s' H' → D.nx σ' H'
  | .brk s' => ∀ σ' w' H', Mono w H w' H' → Wd X.K X.mg G.B w' σ' s' H' → D.bk σ' H'
  | .cnt s' => ∀ σ' w' H', Mono w H w' H' → Wd X.K X.mg G.B w' σ' s' H' → D.ct σ' H'
  | .ret d s' => ∀ v w' H', Ext G.B.w G.B.H w' H' → Sound w' H' → StOk X.K X.mg H' w' s'.st → Vd X.K H' w' d v → D.rt v H'
  | .ex c fs => ∀ cls dx w' H', Ext G.B.w G.B.H w' H' → Sound w' H' → XV X.K X.mg H' w' c fs cls dx → G.E cls dx H'
  | .bad => False
def tS (X : Cx) (G : Env) (g : Ex) : TS := fun D σ H => ∃ w s, Wd X.K X.mg G.B w σ s H ∧ PostS X G w H (g s) D
def DS (X : Cx) (G : Env) (st : Stmt) (g : Ex) : Prop := PS X st (tS X G g)
def DSs (X : Cx) (G : Env) (st : List Stmt) (g : Ex) : Prop := PSs X st (tS X G g)
theorem PostS.at {r : Fl} {D : Ends} (m : Mono w H w1 H1) (h : PostS X G w H r D) : PostS X G w1 H1 r D := by
  cases r with
  | nx s' => exact fun σ' w' H' m' => h σ' w' H' (m.trans m')
  | brk s' => exact fun σ' w' H' m' => h σ' w' H' (m.trans m')
  | cnt s' => exact fun σ' w' H' m' => h σ' w' H' (m.trans m')
  | ret d s' => exact h
  | ex c fs => exact h
  | bad => exact h
/-- an expression, then a statement's rest -/
def bndS {α : Type} (f : Sta → Res α) (k : α → Ex) : Ex := fun s => match f s with
  | .ok a s' => k a s'
  | .ex c fs => .ex c fs
  | .bad => .bad
theorem PostS.bind {α γ : Type} {R : Hp → Wo → α → γ → Prop} {f : Sta → Res α} {k : α → Ex} {D : Ends} {Q1 : γ → Hp → Prop} (h : PostS X G w H (bndS f k s) D)
    (q : ∀ a s1 b w1 H1, Mono w H w1 H1 → Wd X.K X.mg G.B w1 σ s1 H1 → R H1 w1 a b → PostS X G w1 H1 (k a s1) D → Q1 b H1) : Post X G R σ w H (f s) Q1 := by
  unfold bndS at h
  cases e : f s with
  | ok a s' => rw [e] at h; exact fun b w' H' m W r => q a s' b w' H' m W r (h.at m)
  | ex c fs => rw [e] at h; exact h
  | bad => rw [e] at h; exact h
def skip : Ex := fun s => .nx s
def seqS (f g : Ex) : Ex := fun s => match f s with
  | .nx s' => g s'
  | r => r
variable {st : Stmt} {sts sts2 : List Stmt} {gs hs : Ex}
theorem dss_nil : DSs X G [] skip := PSsi pss_nil fun D σ H ⟨w, s, W, h⟩ => h σ w H .refl W
theorem dss_cons (h1 : DS X G st gs) (h2 : DSs X G sts hs) : DSs X G (st :: sts) (seqS gs hs) :=
  PSsi (pss_cons h1 h2) fun D σ H ⟨w, s, W, h⟩ => ⟨w, s, W, by
    unfold seqS at h
    revert h
    cases gs s with
    | nx s' => exact fun h σ' w' H' m W' => ⟨w', s', W', h.at m⟩
    | brk s' => exact fun h => h
    | cnt s' => exact fun h => h
    | ret d s' => exact fun h => h
    | ex c fs => exact fun h => h
    | bad => exact fun h => h⟩
theorem dss_one (h1 : DS X G st gs) : DSs X G [st] gs := pss_one h1
theorem ds_pass : DS X G (.Pass pos) skip := PSi ps_pass fun D σ H ⟨w, s, W, h⟩ => h σ w H .refl W
def brkS : Ex := fun s => .brk s
def cntS : Ex := fun s => .cnt s
theorem ds_break : DS X G (.Break pos) brkS := PSi ps_break fun D σ H ⟨w, s, W, h⟩ => h σ w H .refl W
theorem ds_continue : DS X G (.Continue pos) cntS := PSi ps_continue fun D σ H ⟨w, s, W, h⟩ => h σ w H .refl W
theorem ds_doc {x j pos'} : DS X G (.Expr (.Constant (.str x) j pos) pos') skip := PSi ps_doc fun D σ H ⟨w, s, W, h⟩ => h σ w H .refl W
/-! ### stores -/
theorem Wd.setv {i : Nat} {d : D} {v : V} (W : Wd K mg B w σ s H) (hv : Vd K H w d v) : Wd K mg B w (σ.set i (some v)) ⟨s.sl.set i (.v d), s.st⟩ H where
  ext := W.ext
  snd := W.snd
  sb := W.sb
  sto := W.sto
  sl := fun j x ej => by
    have ej : (s.sl.set i (.v d))[j]? = some x := ej
    rw [List.getElem?_set] at ej
    rw [List.getElem?_set]
    by_cases eq : i = j
    · subst eq
      rw [if_pos rfl] at ej
      split at ej
      · rename_i hl
        cases ej
        rw [if_pos rfl, if_pos (Nat.lt_of_lt_of_le hl W.len)]
        exact ⟨v, rfl, hv⟩
      · cases ej
    · rw [if_neg eq] at ej ⊢
      exact W.sl j x ej
  len := by show (s.sl.set i _).length ≤ (σ.set i _).length; rw [List.length_set, List.length_set]; exact W.len
  two := fun p q pq hp hq => by
    have other : ∀ p, isLin (s.sl.set i (.v d))[p]? = true → i ≠ p ∧ isLin s.sl[p]? = true := fun p hp => by
      rw [List.getElem?_set] at hp
      split at hp
      · split at hp <;> cases hp
      · rename_i ne; exact ⟨ne, hp⟩
    obtain ⟨n1, h1⟩ := other p hp
    obtain ⟨n2, h2⟩ := other q hq
    rw [List.getElem?_set, List.getElem?_set, if_neg n1, if_neg n2]
    exact W.two p q pq h1 h2
/-- a fresh list or dict comes into a slot -/
theorem Wd.setl {i : Nat} {m : Lin} {a : Addr} (W : Wd K mg B w σ s H) (l : LOk K H w.I a m) (n1 : a ∉ w.ρ) (n2 : ¬ w.I a) (n3 : B.H a = none) (n4 : ∀ i : Nat, isLin s.sl[i]? = true → σ[i]? ≠ some (some (.ref a))) :
    Wd K mg B w (σ.set i (some (.ref a))) ⟨s.sl.set i (.lin m), s.st⟩ H where
  ext := W.ext
  snd := W.snd
  sb := W.sb
  sto := W.sto
  sl := fun j x ej => by
    have ej : (s.sl.set i (.lin m))[j]? = some x := ej
    rw [List.getElem?_set] at ej
    rw [List.getElem?_set]
    by_cases eq : i = j
    · subst eq
      rw [if_pos rfl] at ej
      split at ej
      · rename_i hl
        cases ej
        rw [if_pos rfl, if_pos (Nat.lt_of_lt_of_le hl W.len)]
        exact ⟨a, rfl, l, n1, n2, n3⟩
      · cases ej
    · rw [if_neg eq] at ej ⊢
      exact W.sl j x ej
  len := by show (s.sl.set i _).length ≤ (σ.set i _).length; rw [List.length_set, List.length_set]; exact W.len
  two := fun p q pq hp hq => by
    have hp : isLin (s.sl.set i (.lin m))[p]? = true := hp
    have hq : isLin (s.sl.set i (.lin m))[q]? = true := hq
    rw [List.getElem?_set] at hp hq
    rw [List.getElem?_set, List.getElem?_set]
    by_cases e1 : i = p
    · by_cases e2 : i = q
      · exact absurd (e1.symm.trans e2) pq
      · rw [if_neg e2] at hq ⊢
        rw [if_pos e1] at hp ⊢
        split at hp
        · rename_i hl
          subst e1
          rw [if_pos (Nat.lt_of_lt_of_le hl W.len)]
          exact fun z => n4 q hq z.symm
        · cases hp
    · rw [if_neg e1] at hp ⊢
      by_cases e2 : i = q
      · rw [if_pos e2] at hq ⊢
        split at hq
        · rename_i hl
          subst e2
          rw [if_pos (Nat.lt_of_lt_of_le hl W.len)]
          exact n4 p hp
        · cases hq
      · rw [if_neg e2] at hq ⊢
        exact W.two p q pq hp hq
def setV (i : Nat) (d : D) : Ex := fun s => .nx ⟨s.sl.set i (.v d), s.st⟩
def setL (i : Nat) (m : Lin) : Ex := fun s => .nx ⟨s.sl.set i (.lin m), s.st⟩
/-! ### targets -/
abbrev Tg := D → Sta → Option Sta
abbrev Tgs := List D → Sta → Option Sta
def PostG (X : Cx) (G : Env) (w : Wo) (H : Hp) (r : Option Sta) (Q : L2.St → Hp → Prop) : Prop :=
  match r with
  | some s' => ∀ σ' w' H', Mono w H w' H' → Wd X.K X.mg G.B w' σ' s' H' → Q σ' H'
  | none => False
def tG (X : Cx) (G : Env) (t : Tg) : TG := fun v σ H Q => ∃ w s d, Wd X.K X.mg G.B w σ s H ∧ Vd X.K H w d v ∧ PostG X G w H (t d s) Q
def tGs (X : Cx) (G : Env) (t : Tgs) : TGs := fun vs σ H Q => ∃ w s ds, Wd X.K X.mg G.B w σ s H ∧ VdL X.K H w ds vs ∧ PostG X G w H (t ds s) Q
def DG (X : Cx) (G : Env) (e : Expr) (t : Tg) : Prop := PG X e (tG X G t)
def DGs (X : Cx) (G : Env) (es : List Expr) (t : Tgs) : Prop := PGs X es (tGs X G t)
theorem PGi {X : Cx} {e : Expr} {t t' : TG} (h : PG X e t) (k : ∀ v σ H Q, t' v σ H Q → t v σ H Q) : PG X e t' := ⟨fun pins s σ H v u Q I r q => h.run pins s σ H v u Q I r (k v σ H Q q)⟩
theorem PGsi {X : Cx} {es : List Expr} {t t' : TGs} (h : PGs X es t) (k : ∀ v σ H Q, t' v σ H Q → t v σ H Q) : PGs X es t' := ⟨fun pins s σ H v u Q I r q => h.run pins s σ H v u Q I r (k v σ H Q q)⟩
def nameG (i : Nat) : Tg := fun d s => some ⟨s.sl.set i (.v d), s.st⟩
theorem dg_name {i : Nat} {x : Str} (hN : X.N.Nodup) (hi : X.N[i]? = some x) (hx : Loc X.env.scope x) (hf : X.fn x = true ∨ X.env.scope.names.lookup x = some .local := by first | exact .inl rfl | exact .inr rfl | assumption) : DG X G (.Name x pos) (nameG i) :=
  PGi (pg_name hN hi hx hf) fun v σ H Q ⟨w, s, d, W, hv, h⟩ => h _ w H .refl (W.setv hv)
def nilG : Tgs
  | [], s => some s
  | _, _ => none
def consG (t : Tg) (u : Tgs) : Tgs
  | d :: ds, s => match t d s with
    | some s' => u ds s'
    | none => none
  | [], _ => none
theorem dgs_nil : DGs X G [] nilG := PGsi pgs_nil fun vs σ H Q ⟨w, s, ds, W, hv, h⟩ => by
  cases hv with
  | nil => exact ⟨rfl, h σ w H .refl W⟩
  | cons _ _ => exact h.elim
theorem PostG.at {r : Option Sta} {Q : L2.St → Hp → Prop} (m : Mono w H w1 H1) (h : PostG X G w H r Q) : PostG X G w1 H1 r Q := by
  cases r with
  | some s' => exact fun σ' w' H' m' => h σ' w' H' (m.trans m')
  | none => exact h
theorem dgs_cons {t : Tg} {u : Tgs} (h1 : DG X G e t) (h2 : DGs X G es u) (hs : (assignEach (e :: es) X.env).map (·.2) = assign e X.env :: (assignEach es X.env).map (·.2) := by rfl) : DGs X G (e :: es) (consG t u) :=
  PGsi (pgs_cons h1 h2 hs) fun vs σ H Q ⟨w, s, ds, W, hv, h⟩ => by
    cases hv with
    | nil => exact h.elim
    | @cons d ds v vs a t' =>
      refine ⟨v, vs, rfl, w, s, d, W, a, ?_⟩
      unfold consG at h
      cases e : t d s with
      | some s' => simp only [e] at h; exact fun σ' w' H' m W' => ⟨w', s', ds, W', t'.mono m, h.at m⟩
      | none => simp only [e] at h; exact h.elim
/-- what is taken apart: a tuple -/
def tupOf (d : D) (s : Sta) : Option (List D) := match d with
  | .p (.tup xs) => some (xs.map .p)
  | .kt xs => some (xs.map kitem)
  | .loc n => match s.st with
    | some S => match S[n]? with
      | some (.tup ds) => some ds
      | _ => none
    | none => none
  | _ => none
theorem tup_at' {d : D} {v : V} {ds : List D} (W : Wd K mg B w σ s H) (h : Vd K H w d v) (e : tupOf d s = some ds) : ∃ a vs, v = .ref a ∧ SqT K H a vs ∧ VdL K H w ds vs := by
  unfold tupOf at e
  cases h with
  | p t =>
    cases t with
    | tup h1 t => simp at e; subst e; exact ⟨_, _, rfl, .of h1, t.vd⟩
    | tupK hq _ _ => cases hq
    | _ => simp at e
  | kt h1 h2 => simp at e; subst e; exact ⟨_, _, rfl, h1 _, kitems h2⟩
  | @loc n a hn =>
    have st := W.sto
    cases es : s.st with
    | none => rw [es] at e; simp at e
    | some S =>
      rw [es] at e st
      simp only at e
      split at e
      · rename_i ds' em
        cases e
        cases st.2 n a _ hn em with
        | tup h1 t => exact ⟨_, _, rfl, .of h1, t⟩
      · cases e
  | _ => simp at e
def tupG (n : Nat) (t : Tgs) : Tg := fun d s => match tupOf d s with
  | some ds => if ds.length = n then t ds s else none
  | none => none
theorem dg_tup {k n : Nat} {t : Tgs} (hc : X.calm = true) (h : DGs X G es t) (hn : (assignEach es X.env).length = n := by rfl) (hst : (assignEach es X.env).findIdx? (·.1) = none := by rfl) : DG X G (.Tuple es k pos) (tupG n t) :=
  PGi (pg_tup hc h hn hst) fun v σ H Q ⟨w, s, d, W, hv, h⟩ => by
    unfold tupG at h
    split at h
    · rename_i ds ed
      split at h
      · rename_i hl
        obtain ⟨a, vs, rfl, hq, tl⟩ := tup_at' W hv ed
        exact ⟨a, vs, rfl, hq, by rw [← VdL.len tl]; exact hl, w, s, ds, W, tl, h⟩
      · exact h.elim
    · exact h.elim
/-! ### assignments -/
theorem ds_set {i : Nat} {x : Str} {pos' : Pos} (hN : X.N.Nodup) (hi : X.N[i]? = some x) (hx : Loc X.env.scope x) (ha : DE X G a f) (hs : swapsWith a (some (.Name x pos')) pos.line X.env = pure false := by rfl)
    (hf : X.fn x = true ∨ X.env.scope.names.lookup x = some .local := by first | exact .inl rfl | exact .inr rfl | assumption) : DS X G (.Assign [.Name x pos'] a pos) (bndS f (setV i)) :=
  PSi (ps_set hN hi hx ha hs hf) fun D σ H ⟨w, s, W, h⟩ => ⟨w, s, W, h.bind fun d s1 v w1 H1 m1 W1 r1 h1 => h1 _ w1 H1 .refl (W1.setv r1)⟩
theorem tF_bind {fl : Sta → Res Lin} {k : Lin → Ex} {D : Ends} {Q1 : VK} (W : Wd X.K X.mg G.B w σ s H) (h : PostS X G w H (bndS fl k s) D)
    (q : ∀ m s1 a w1 H1, Mono w H w1 H1 → Wd X.K X.mg G.B w1 σ s1 H1 → LOk X.K H1 w1.I a m → a ∉ w1.ρ → ¬ w1.I a → G.B.H a = none → (∀ i : Nat, isLin s1.sl[i]? = true → σ[i]? ≠ some (some (.ref a))) → PostS X G w1 H1 (k m s1) D → Q1 (.ref a) H1) : tF X G fl σ H Q1 := by
  refine ⟨w, s, W, ?_⟩
  unfold bndS at h
  unfold PostF
  cases e : fl s with
  | ok m s' => rw [e] at h; exact fun a w' H' mo W' l n1 n2 n3 n4 => q m s' a w' H' mo W' l n1 n2 n3 n4 (h.at mo)
  | ex c fs => rw [e] at h; exact h
  | bad => rw [e] at h; exact h
theorem ds_setl {i : Nat} {x : Str} {pos' : Pos} {fl : Sta → Res Lin} (hN : X.N.Nodup) (hi : X.N[i]? = some x) (hx : Loc X.env.scope x) (ha : DF X G a fl) (hs : swapsWith a (some (.Name x pos')) pos.line X.env = pure false := by rfl)
    (hf : X.fn x = true ∨ X.env.scope.names.lookup x = some .local := by first | exact .inl rfl | exact .inr rfl | assumption) : DS X G (.Assign [.Name x pos'] a pos) (bndS fl (setL i)) :=
  PSi (ps_set hN hi hx ha hs hf) fun D σ H ⟨w, s, W, h⟩ => tF_bind W h fun m s1 a w1 H1 mo W1 l n1 n2 n3 n4 h1 => h1 _ w1 H1 .refl (W1.setl l n1 n2 n3 n4)
def asgS (f : Ev) (t : Tg) : Ex := bndS f fun d s => match t d s with
  | some s' => .nx s'
  | none => .bad
theorem ds_asg {tg : Expr} {t : Tg} (ha : DE X G a f) (hg : DG X G tg t) (hs : swapsWithSole [tg] a pos.line X.env = pure false := by rfl) (hw : swappedStores [tg] a X.env = pure none := by rfl)
    (h1 : (assignEach [tg] X.env).map (·.2) = [assign tg X.env] := by rfl) : DS X G (.Assign [tg] a pos) (asgS f t) :=
  PSi (ps_asg ha hg hs hw h1) fun D σ H ⟨w, s, W, h⟩ => ⟨w, s, W, h.bind fun d s1 v w1 H1 m1 W1 r1 h1 => ⟨w1, s1, d, W1, r1, by
    cases e : t d s1 with
    | some s2 => simp only [e] at h1; exact h1
    | none => simp only [e] at h1; exact h1.elim⟩⟩
theorem ds_expr (ha : DE X G a f) (hs : swapsWith a none pos.line X.env = pure false := by rfl) : DS X G (.Expr a pos) (bndS f fun _ => skip) :=
  PSi (ps_expr ha hs) fun D σ H ⟨w, s, W, h⟩ => ⟨w, s, W, h.bind fun d s1 v w1 H1 m1 W1 r1 h1 => h1 _ w1 H1 .refl W1⟩
def retS (d : D) : Ex := fun s => .ret d s
theorem ds_ret (ha : DE X G a f) : DS X G (.Return (some a) pos) (bndS f retS) :=
  PSi (ps_ret ha) fun D σ H ⟨w, s, W, h⟩ => ⟨w, s, W, h.bind fun d s1 v w1 H1 m1 W1 r1 h1 => h1 v w1 H1 W1.ext W1.snd W1.sto r1⟩
theorem ds_retN : DS X G (.Return none pos) (retS (.p .non)) := PSi ps_retN fun D σ H ⟨w, s, W, h⟩ => h .non w H W.ext W.snd W.sto (.p .non)
def ifS (t : Sta → Res Bool) (g h : Ex) : Ex := bndS t fun b s => if b = true then g s else h s
theorem ds_if {ft : Sta → Res Bool} (hc : DT X G c ft) (h1 : DSs X G sts gs) (h2 : DSs X G sts2 hs) : DS X G (.If c sts sts2 pos) (ifS ft gs hs) :=
  PSi (ps_if hc h1 h2) fun D σ H ⟨w, s, W, h⟩ => ⟨w, s, W, h.bind fun d s1 v w1 H1 m1 W1 r1 h1 => by
    cases (show d = v from r1)
    cases d with
    | true => exact iteT ⟨w1, s1, W1, h1⟩
    | false => exact iteF ⟨w1, s1, W1, h1⟩⟩
end
end Dz
namespace Dz
open PySem PySem.Spec PyProof.Rows L2
section
variable {X : Cx} {G : Env} {σ σ' : L2.St} {w w1 w' : Wo} {H H1 H' : Hp} {s s1 s' : Sta} {K : PySem.W.Frag} {mg : Str → Option Value} {B : Ba}
variable {a b c e : Expr} {es : List Expr} {f g h : Ev} {pos p2 : Pos} {rest : List Expr} {st : Stmt} {sts sts2 : List Stmt} {gs hs : Ex}
/-! ### while -/
def whileS (t : Sta → Res Bool) (b : Ex) : Nat → Ex
  | 0 => fun _ => .bad
  | n + 1 => bndS t fun k s => if k = true then (match b s with
    | .nx s' => whileS t b n s'
    | .cnt s' => whileS t b n s'
    | .brk s' => .nx s'
    | r => r) else .nx s
theorem ds_while {ft : Sta → Res Bool} (n : Nat) (hp : PassesOwn (model X.prog X.w) X.A X.env X.xe) (hc : DT X G c ft) (hb : DSs X G sts gs) : DS X G (.While c sts [] pos) (whileS ft gs n) :=
  PSi (ps_while hp hc hb) fun D σ H ⟨w, s, W, h⟩ => by
    refine ⟨fun m σ H => ∃ w s, Wd X.K X.mg G.B w σ s H ∧ PostS X G w H (whileS ft gs m s) D, ⟨n, w, s, W, h⟩, ?_⟩
    rintro m σ H ⟨w, s, W, h⟩
    cases m with
    | zero => exact h.elim
    | succ m =>
      refine ⟨w, s, W, PostS.bind h fun k s1 k' w1 H1 m1 W1 r1 h1 => ?_⟩
      cases (show k = k' from r1)
      cases k with
      | false =>
        rw [if_neg Bool.false_ne_true] at h1 ⊢
        exact h1 _ w1 H1 .refl W1
      | true =>
        rw [if_pos rfl] at h1 ⊢
        refine ⟨fun σ' H' => ∃ m', m' < m + 1 ∧ ∃ w s, Wd X.K X.mg G.B w σ' s H' ∧ PostS X G w H' (whileS ft gs m' s) D, fun _ _ z => z, w1, s1, W1, ?_⟩
        revert h1
        cases gs s1 with
        | nx s' => exact fun h1 σ' w' H' m' W' => ⟨m, Nat.lt_succ_self _, w', s', W', h1.at m'⟩
        | cnt s' => exact fun h1 σ' w' H' m' W' => ⟨m, Nat.lt_succ_self _, w', s', W', h1.at m'⟩
        | brk s' => exact fun h1 => h1
        | ret d s' => exact fun h1 => h1
        | ex c fs => exact fun h1 => h1
        | bad => exact fun h1 => h1
/-! ### what is walked -/
/-- J goes over ds from the state at w, H on -/
def WalkD (X : Cx) (G : Env) (w : Wo) (H : Hp) (J : It) (ds : List D) : Prop := ∃ (Gs : Hp → Prop) (Y : Nat → Hp → V → Hp → Prop), Walk J ds.length Gs Y ∧ (∀ w1 H1, Mono w H w1 H1 → Gs H1) ∧
  ∀ i H0 x H1 w0, i < ds.length → Mono w H w0 H0 → Sound w0 H0 → Y i H0 x H1 → (H1 = H0 ∨ ∃ T o, H0 T = none ∧ H1 = upd H0 T o) ∧ ∀ w1, Mono w0 H0 w1 H1 → (∀ T, H0 T = none → H1 T ≠ none → w1.I T) → ∃ d, ds[i]? = some d ∧ Vd X.K H1 w1 d x
def PostI (X : Cx) (G : Env) (σ : L2.St) (w : Wo) (H : Hp) (r : Res (List D)) (R : It → Hp → Prop) : Prop :=
  match r with
  | .ok ds s' => ∀ w' H' J, Mono w H w' H' → Wd X.K X.mg G.B w' σ s' H' → WalkD X G w' H' J ds → R J H'
  | .ex c fs => ∀ cls dx w' H', Ext G.B.w G.B.H w' H' → Sound w' H' → XV X.K X.mg H' w' c fs cls dx → G.E cls dx H'
  | .bad => False
def tI (X : Cx) (G : Env) (f : Sta → Res (List D)) : TI := fun σ H R => ∃ w s, Wd X.K X.mg G.B w σ s H ∧ PostI X G σ w H (f s) R
def DI (X : Cx) (G : Env) (tg iter : Expr) (f : Sta → Res (List D)) : Prop := PI X tg iter (tI X G f)
theorem PIi {X : Cx} {tg e : Expr} {t t' : TI} (h : PI X tg e t) (k : ∀ σ H R, t' σ H R → t σ H R) : PI X tg e t' := ⟨fun pins s σ H R I q => h.run pins s σ H R I (k σ H R q)⟩
theorem PI.or {X : Cx} {tg e : Expr} {t t' : TI} (h : PI X tg e t) (h' : PI X tg e t') : PI X tg e (fun σ H R => t σ H R ∨ t' σ H R) := ⟨fun pins s σ H R I q => by
  rcases q with q | q
  · exact h.run pins s σ H R I q
  · exact h'.run pins s σ H R I q⟩
theorem PostI.at {r : Res (List D)} {R : It → Hp → Prop} (m : Mono w H w1 H1) (h : PostI X G σ w H r R) : PostI X G σ w1 H1 r R := by
  cases r with
  | ok a s' => exact fun w' H' J m' => h w' H' J (m.trans m')
  | ex c fs => exact h
  | bad => exact h
theorem PostI.bind {α γ : Type} {RR : Hp → Wo → α → γ → Prop} {f : Sta → Res α} {k : α → Sta → Res (List D)} {R : It → Hp → Prop} {Q1 : γ → Hp → Prop} (h : PostI X G σ w H (bnd f k s) R)
    (q : ∀ a s1 b w1 H1, Mono w H w1 H1 → Wd X.K X.mg G.B w1 σ s1 H1 → RR H1 w1 a b → PostI X G σ w1 H1 (k a s1) R → Q1 b H1) : Post X G RR σ w H (f s) Q1 := by
  unfold bnd at h
  cases e : f s with
  | ok a s' => rw [e] at h; exact fun b w' H' m W r => q a s' b w' H' m W r (h.at m)
  | ex c fs => rw [e] at h; exact h
  | bad => rw [e] at h; exact h
/-- lists and tuples that do not change -/
def immOf (d : D) : Option (List D) := match d with
  | .p (.lst xs) => some (xs.map .p)
  | .p (.tup xs) => some (xs.map .p)
  | .fz xs => some (xs.map .p)
  | .kt xs => some (xs.map kitem)
  | _ => none
def walkR (d : D) : Sta → Res (List D) := fun s => match immOf d with
  | some ds => .ok ds s
  | none => .bad
theorem walk_at {J : It} {vs : List V} {ds : List D} {Gs : Hp → Prop} (wk : Walk J vs.length Gs (YAt vs)) (hg : ∀ w1 H1, Mono w H w1 H1 → Gs H1) (tl : VdL X.K H w ds vs) : WalkD X G w H J ds := by
  refine ⟨Gs, YAt vs, by rw [tl.len]; exact wk, hg, fun i H0 x H1 w0 hi m0 _ y => ?_⟩
  obtain ⟨rfl, hx⟩ := y
  refine ⟨.inl rfl, fun w1 m1 _ => ?_⟩
  obtain ⟨v, e1, h1⟩ := tl.at (x := ds[i]) (i := i) (by simp [hi])
  rw [hx] at e1
  cases e1
  exact ⟨ds[i], by simp [hi], (h1.mono m0).mono m1⟩
theorem di_seq {tg : Expr} (ha : DE X G a f) : DI X G tg a (bnd f walkR) :=
  PIi (PI.or (pi_list ha) (pi_tup ha)) fun σ H R ⟨w, s, W, h⟩ => by
    unfold bnd at h
    cases e : f s with
    | bad => rw [e] at h; exact h.elim
    | ex c fs => rw [e] at h; exact .inl ⟨w, s, W, by rw [e]; exact h⟩
    | ok d s' =>
      rw [e] at h
      unfold walkR at h
      simp only at h
      cases d with
      | p x =>
        cases x with
        | lst xs =>
          refine .inl ⟨w, s, W, ?_⟩
          rw [e]
          intro v w1 H1 m1 W1 r1
          cases r1 with
          | p t =>
            cases t with
            | lst h1 h2 t => exact ⟨_, rfl, ⟨_, .of h1⟩, h w1 H1 _ m1 W1 (walk_at walk_list (fun w2 H2 m2 => .of (m2.imm.at' _ _ h2 h1).2) t.vd)⟩
        | tup xs =>
          refine .inr ⟨w, s, W, ?_⟩
          rw [e]
          intro v w1 H1 m1 W1 r1
          cases r1 with
          | p t =>
            cases t with
            | tup h1 t => exact ⟨_, rfl, ⟨_, .of h1⟩, h w1 H1 _ m1 W1 (walk_at walk_tup (fun w2 H2 m2 => .of (m2.imm.tup _ _ h1)) t.vd)⟩
            | tupK hq _ _ => cases hq
        | _ => exact h.elim
      | fz xs =>
        refine .inl ⟨w, s, W, ?_⟩
        rw [e]
        intro v w1 H1 m1 W1 r1
        cases r1 with
        | fz h1 t => exact ⟨_, rfl, ⟨_, h1.sq⟩, h w1 H1 _ m1 W1 (walk_at walk_list (fun w2 H2 m2 => (h1.mono m2.imm).sq) t.vd)⟩
      | kt xs =>
        refine .inr ⟨w, s, W, ?_⟩
        rw [e]
        intro v w1 H1 m1 W1 r1
        cases r1 with
        | kt h1 h2 => exact ⟨_, rfl, ⟨_, h1 _⟩, h w1 H1 _ m1 W1 (walk_at walk_tup (fun w2 H2 m2 => h1 _) (kitems h2))⟩
      | _ => exact h.elim
/-- range(n), range(a, b) -/
def rngL (lo : Int) (n : Nat) : List D := (List.range n).map fun i => .p (.int (lo + (i : Nat)))
@[irreducible] def rng1 (ds : List D) : Sta → Res (List D) := fun s => match ds with
  | [.p (.int j)] => if -(2 ^ 62) ≤ j ∧ j < 2 ^ 62 then .ok (rngL 0 j.toNat) s else .bad
  | _ => .bad
@[irreducible] def rng2 (ds : List D) : Sta → Res (List D) := fun s => match ds with
  | [.p (.int i), .p (.int j)] => if -(2 ^ 62) ≤ i ∧ i < 2 ^ 62 ∧ -(2 ^ 62) ≤ j ∧ j < 2 ^ 62 then .ok (rngL i (j - i).toNat) s else .bad
  | _ => .bad
theorem rngL_len {lo : Int} {n : Nat} : (rngL lo n).length = n := by simp [rngL]
theorem walk_rng {lo : Int} {n : Nat} : WalkD X G w H (Itr lo n) (rngL lo n) := by
  refine ⟨_, _, by rw [rngL_len]; exact walk_range, fun _ _ _ => trivial, fun i H0 x H1 w0 hi m0 _ y => ?_⟩
  obtain ⟨rfl, rfl⟩ := y
  rw [rngL_len] at hi
  exact ⟨.inl rfl, fun w1 m1 _ => ⟨.p (.int (lo + i)), by simp [rngL, hi], .p (.int _)⟩⟩
variable {fa : Sta → Res (List D)}
theorem di_rng1 {tg : Expr} {p : Pos} (hg : Gl X "range") (hm : X.mg "range" = none) (ha : DA X G [a] fa) (hs : starEach [a] X.env = [(false, eval a X.env)] := by rfl) : DI X G tg (.Call (.Name "range" p) [a] [] pos) (bnd fa rng1) :=
  PIi (pi_range1 hg hm ha hs) fun σ H R ⟨w, s, W, h⟩ => ⟨w, s, W, PostI.bind h fun ds s1 vs w1 H1 m1 W1 r1 h1 => by
    unfold rng1 at h1
    split at h1
    · split at h1
      · rename_i hb
        cases r1 with
        | cons r1 r2 =>
          cases r2
          cases r1 with
          | p t => cases t; exact ⟨_, rfl, hb.1, hb.2, h1 _ _ _ .refl W1 walk_rng⟩
      · exact h1.elim
    · exact h1.elim⟩
theorem di_rng2 {tg : Expr} {p : Pos} (hg : Gl X "range") (hm : X.mg "range" = none) (ha : DA X G [a, b] fa) (hs : starEach [a, b] X.env = [(false, eval a X.env), (false, eval b X.env)] := by rfl) (hs2 : starEach [b] X.env = [(false, eval b X.env)] := by rfl) :
    DI X G tg (.Call (.Name "range" p) [a, b] [] pos) (bnd fa rng2) :=
  PIi (pi_range2 hg hm ha hs hs2) fun σ H R ⟨w, s, W, h⟩ => ⟨w, s, W, PostI.bind h fun ds s1 vs w1 H1 m1 W1 r1 h1 => by
    unfold rng2 at h1
    split at h1
    · split at h1
      · rename_i hb
        cases r1 with
        | cons r1 r2 =>
          cases r2 with
          | cons r2 r3 =>
            cases r3
            cases r1 with
            | p t =>
              cases t
              cases r2 with
              | p t => cases t; exact ⟨_, _, rfl, hb, h1 _ _ _ .refl W1 walk_rng⟩
      · exact h1.elim
    · exact h1.elim⟩
/-- a text, sign by sign -/
def strL (z : Str) : List D := z.cps.toList.map fun c => .p (.str ⟨#[c]⟩)
def walkStr (d : D) : Sta → Res (List D) := fun s => match d with
  | .p (.str z) => .ok (strL z) s
  | _ => .bad
theorem di_str {tg : Expr} (ha : DE X G a f) : DI X G tg a (bnd f walkStr) :=
  PIi (pi_str ha) fun σ H R ⟨w, s, W, h⟩ => ⟨w, s, W, PostI.bind h fun d s1 v w1 H1 m1 W1 r1 h1 => by
    unfold walkStr at h1
    split at h1
    · rename_i z
      cases r1 with
      | p t =>
        cases t
        refine ⟨_, rfl, h1 _ _ _ .refl W1 ⟨_, _, by rw [show (strL z).length = z.cps.size by simp [strL]]; exact walk_str, fun _ _ _ => trivial, fun i H0 x H1 w0 hi m0 _ y => ?_⟩⟩
        obtain ⟨rfl, c, hc, rfl⟩ := y
        exact ⟨.inl rfl, fun w1 m1 _ => ⟨.p (.str ⟨#[c]⟩), by simp [strL, hc], .p (.str _)⟩⟩
    · exact h1.elim⟩
/-! ### for -/
def loopS (t : Tg) (b : Ex) : List D → Ex
  | [] => skip
  | d :: ds => fun s => match t d s with
    | some s1 => match b s1 with
      | .nx s2 => loopS t b ds s2
      | .cnt s2 => loopS t b ds s2
      | .brk s2 => .nx s2
      | r => r
    | none => .bad
/-- the yielded value's world -/
theorem yield_at {J : It} {ds : List D} {i : Nat} {x : V} {Y : Nat → Hp → V → Hp → Prop} {w0 : Wo} {H0 : Hp} (W : Wd X.K X.mg G.B w0 σ s H0)
    (y : (H1 = H0 ∨ ∃ T o, H0 T = none ∧ H1 = upd H0 T o) ∧ ∀ w1, Mono w0 H0 w1 H1 → (∀ T, H0 T = none → H1 T ≠ none → w1.I T) → ∃ d, ds[i]? = some d ∧ Vd X.K H1 w1 d x) :
    ∃ w1 d, Mono w0 H0 w1 H1 ∧ Wd X.K X.mg G.B w1 σ s H1 ∧ ds[i]? = some d ∧ Vd X.K H1 w1 d x := by
  obtain ⟨h, k⟩ := y
  rcases h with rfl | ⟨T, o, hT, rfl⟩
  · obtain ⟨d, e, v⟩ := k w0 .refl fun T h1 h2 => absurd h1 h2
    exact ⟨w0, d, .refl, W, e, v⟩
  · have m : Mono w0 H0 (w0.add T) (upd H0 T o) := (Ext.fresh hT).mono W.snd
    obtain ⟨d, e, v⟩ := k (w0.add T) m fun T' h1 h2 => by
      by_cases eT : T' = T
      · exact .inr eT
      · rw [upd_ne eT] at h2; exact absurd h1 h2
    exact ⟨w0.add T, d, m, W.fresh hT, e, v⟩
def forS (fi : Sta → Res (List D)) (t : Tg) (b : Ex) : Ex := bndS fi fun ds => loopS t b ds
theorem ds_for {tg : Expr} {fi : Sta → Res (List D)} {t : Tg} (hp : PassesOwn (model X.prog X.w) X.A X.env X.xe) (hc : X.calm = true) (hi : DI X G tg e fi) (hg : DG X G tg t) (hb : DSs X G sts gs) (hs : ∀ x, foldedSetIterable e X.env x = pure x := by intro _; rfl) :
    DS X G (.For tg e sts [] pos) (forS fi t gs) :=
  PSi (ps_for hp hc hi hg hb hs) fun D σ H ⟨w, s, W, h⟩ => by
    refine ⟨w, s, W, ?_⟩
    unfold forS bndS at h
    cases e : fi s with
    | bad => rw [e] at h; exact h.elim
    | ex c fs => rw [e] at h; exact h
    | ok ds s' =>
      rw [e] at h
      intro w1 H1 J m1 W1 wk
      obtain ⟨Gs, Y, wlk, hG, hY⟩ := wk
      refine for_it wlk (fun i σ H => ∃ w0 s, Mono w1 H1 w0 H ∧ Wd X.K X.mg G.B w0 σ s H ∧ PostS X G w0 H (loopS t gs (ds.drop i) s) D) ⟨w1, s', .refl, W1, by rw [List.drop_zero]; exact h.at m1⟩ (fun i σ H _ ⟨w0, s, m, W0, _⟩ => hG w0 H m) ?_ ?_
      · rintro i x σ2 H2 H3 hi ⟨w0, s, m, W0, h0⟩ y
        obtain ⟨w2, d, m2, W2, ed, vd⟩ := yield_at (J := J) (Y := Y) W0 (hY i H2 x H3 w0 hi m W0.snd y)
        refine ⟨w2, s, d, W2, vd, ?_⟩
        have ed' : ds.drop i = d :: ds.drop (i + 1) := by
          rw [List.drop_eq_getElem_cons hi]
          rw [List.getElem?_eq_getElem hi] at ed
          rw [Option.some.inj ed]
        rw [ed', loopS] at h0
        cases et : t d s with
        | none => simp only [et] at h0; exact h0.elim
        | some s3 =>
          simp only [et] at h0
          intro σ4 w4 H4 m4 W4
          refine ⟨w4, s3, W4, ?_⟩
          have mm : Mono w1 H1 w4 H4 := (m.trans m2).trans m4
          have h0 := h0.at (m2.trans m4)
          revert h0
          cases gs s3 with
          | nx s5 => exact fun h0 σ' w' H' m' W' => ⟨w', s5, mm.trans m', W', h0.at m'⟩
          | cnt s5 => exact fun h0 σ' w' H' m' W' => ⟨w', s5, mm.trans m', W', h0.at m'⟩
          | brk s5 => exact fun h0 => h0
          | ret d s5 => exact fun h0 => h0
          | ex c fs => exact fun h0 => h0
          | bad => exact fun h0 => h0
      · rintro σ2 H2 ⟨w0, s, m, W0, h0⟩
        rw [List.drop_length] at h0
        exact h0 σ2 w0 H2 .refl W0
end
end Dz
namespace Dz
open PySem PySem.Spec PyProof.Rows L2
section
variable {X : Cx} {G : Env} {σ σ' : L2.St} {w w1 w' : Wo} {H H1 H' : Hp} {s s1 s' : Sta} {K : PySem.W.Frag} {mg : Str → Option Value} {B : Ba}
variable {a b c e : Expr} {es : List Expr} {f g h : Ev} {pos p2 : Pos} {rest : List Expr} {st : Stmt} {sts sts2 : List Stmt} {gs hs : Ex}
/-! ### what a def promises -/
/-- a def as a function: its arguments, the store; its value, the store behind it -/
abbrev Fn := List D → Option (List MO) → Res D
def PostD (K : PySem.W.Frag) (mg : Str → Option Value) (w : Wo) (H : Hp) (E : XK) (r : Res D) (Q : VK) : Prop :=
  match r with
  | .ok d s' => ∀ v w' H', Ext w H w' H' → Sound w' H' → StOk K mg H' w' s'.st → Vd K H' w' d v → Q v H'
  | .ex c fs => ∀ cls dx w' H', Ext w H w' H' → Sound w' H' → XV K mg H' w' c fs cls dx → E cls dx H'
  | .bad => False
def spD (K : PySem.W.Frag) (mg : Str → Option Value) (m : Fn) : Sp := fun vs H Q E => ∃ w ds st, Sound w H ∧ StOk K mg H w st ∧ VdL K H w ds vs ∧ PostD K mg w H E (m ds st) Q
def endD (r : Fl) : Res D := match r with
  | .nx s => .ok (.p .non) s
  | .ret d s => .ok d s
  | .ex c fs => .ex c fs
  | _ => .bad
/-- a body as a function: n parameters, k further slots -/
def runD (n : Nat) (g : Ex) (k : Nat) : Fn := fun ds st => if ds.length = n then endD (g ⟨ds.map .v ++ List.replicate k .un, st⟩) else .bad
theorem start_at {ds : List D} {vs : List V} {N : List Str} {n k : Nat} (sn : Sound w H) (so : StOk K mg H w (s.st)) (t : VdL K H w ds vs) (hn : ds.length + k = N.length) (hs : s.sl = ds.map .v ++ List.replicate k .un) : Wd K mg ⟨w, H⟩ w (L2.start N vs) s H := by
  have ll := t.len
  refine ⟨.refl, sn, sn, so, fun i x e => ?_, ?_, fun i j _ hi _ => ?_⟩
  · rw [hs] at e
    by_cases hi : i < ds.length
    · rw [List.getElem?_append_left (by simpa using hi), List.getElem?_map] at e
      obtain ⟨d, ed, rfl⟩ := Option.map_eq_some_iff.mp e
      obtain ⟨v, ev, hv⟩ := t.at ed
      refine ⟨v, ?_, hv⟩
      unfold L2.start
      rw [List.getElem?_append_left (by rw [List.length_map, ← ll]; exact hi), List.getElem?_map, ev]
      rfl
    · rw [List.getElem?_append_right (by simpa using hi), List.getElem?_replicate] at e
      split at e
      · cases e; trivial
      · cases e
  · rw [hs]
    unfold L2.start
    simp only [List.length_append, List.length_map, List.length_replicate]
    omega
  · rw [hs] at hi
    exfalso
    by_cases h : i < ds.length
    · rw [List.getElem?_append_left (by simpa using h), List.getElem?_map, List.getElem?_eq_getElem h] at hi
      cases hi
    · rw [List.getElem?_append_right (by simpa using h), List.getElem?_replicate] at hi
      split at hi <;> cases hi
variable {P : Program} {wd : World} {base : Heap}
/-- THE RULE: a def by its body -/
theorem fnD {x qual : Str} {st : Stmt} {fa : Addr} {fd : FuncData} {N ps : List Str} {lv k : Nat} {g : Ex} (F : Fun K x qual st fa fd) (S : FnScope N ps (defScope st)) (hk : ps.length + k = N.length)
    (hb : ∀ (cdv : Value) (A : Around) (outer : List PySem.Env) (s : Shared) (H : Hp) (E : XK) (G : Env), Room lv (A.deeper (envOfC qual (defScope st) s.heap.objs.size fa cdv)) → G.E = E →
      DSs (cxOf (L2.CX P wd) P wd K mg base N qual (defScope st) fa cdv A outer s H E) G (defBody st) g) : FnOk P wd K mg base (L2.CX P wd) (lv + 1) fa fd ps (spD K mg (runD ps.length g k)) := by
  refine F.okX S (fun vs H Q E ⟨w, ds, st, _, _, t, h⟩ => ?_) fun cdv A outer s0 H vs Q E hr ⟨w, ds, st', sn, so, t, h⟩ => ?_
  · unfold runD at h
    split at h
    · rename_i hl; rw [← VdL.len t]; exact hl
    · exact h.elim
  unfold runD at h
  split at h
  · rename_i hl
    refine ⟨_, hb cdv A outer s0 H E ⟨⟨w, H⟩, E⟩ hr rfl, w, ⟨ds.map .v ++ List.replicate k .un, st'⟩, start_at (n := 0) sn so t (by omega) rfl, ?_⟩
    revert h
    unfold endD
    cases g ⟨ds.map .v ++ List.replicate k .un, st'⟩ with
    | nx s1 => exact fun h σ' w' H' _ W' => h .non w' H' W'.ext W'.snd W'.sto (.p .non)
    | ret d s1 => exact fun h => h
    | ex c fs => exact fun h => h
    | brk s1 => exact fun h => h.elim
    | cnt s1 => exact fun h => h.elim
    | bad => exact fun h => h.elim
  · exact h.elim
/-! ### calls -/
def noLoc : D → Bool
  | .loc _ => false
  | _ => true
/-- what comes from a def that has a store of its own: its store is known to no one else -/
def outD (d : D) (st : Option (List MO)) : Option D := match d with
  | .loc n => match st with
    | some S => match S[n]? with
      | some (.lst ds) => (ds.mapM unP).map fun xs => .p (.lst xs)
      | some (.dic kvs) => (kvs.mapM fun kd => (unP kd.2).map fun x => (kd.1, x)).map .dic
      | some (.dct kvs) => (kvs.mapM fun kd => (unP kd.2).map fun x => (kd.1, x)).map .dct
      | _ => none
    | none => none
  | d => some d
/-- a call of a def that has a store of its own -/
def callP (m : Fn) (fa : Sta → Res (List D)) : Ev := bnd fa fun ds s => if ds.all noLoc = true then (match m ds (some []) with
  | .ok d s' => match outD d s'.st with
    | some d' => .ok d' s
    | none => .bad
  | .ex c fs => .ex c fs
  | .bad => .bad) else .bad
/-- a call of a def that works on the store -/
def callS (m : Fn) (fa : Sta → Res (List D)) : Ev := bnd fa fun ds s => match m ds s.st with
  | .ok d s' => .ok d ⟨s.sl, s'.st⟩
  | .ex c fs => .ex c fs
  | .bad => .bad
theorem Vd.alone {d : D} {v : V} {ρ : List Addr} (h : Vd K H w d v) (n : noLoc d = true) : Vd K H ⟨ρ, w.I⟩ d v := by
  cases h with
  | p h => exact .p h
  | fz h1 h3 => exact .fz h1 h3
  | kt h1 h2 => exact .kt h1 h2
  | loc h => cases n
  | dic h1 h2 h3 => exact .dic h1 h2 h3
  | dct h1 h2 h3 => exact .dct h1 h2 h3
theorem VdL.alone {ρ : List Addr} : ∀ {ds : List D} {vs : List V}, VdL K H w ds vs → ds.all noLoc = true → VdL K H ⟨ρ, w.I⟩ ds vs
  | _, _, .nil, _ => .nil
  | _, _, .cons a t, n => by
    rw [List.all_cons, Bool.and_eq_true] at n
    exact .cons (a.alone n.1) (t.alone n.2)
/-- from a callee's world of its own, back -/
theorem Ext.back {w' : Wo} (W : Sound w H) (x : Ext ⟨[], w.I⟩ H w' H') (sn : Sound w' H') : Ext w H ⟨w.ρ, w'.I⟩ H' ∧ Sound ⟨w.ρ, w'.I⟩ H' := by
  refine ⟨⟨fun a o e _ => x.keep a o e (by simp), fun _ _ e => e, fun _ h => .inl h, x.imm, x.newi, x.there, x.tup⟩, ⟨W.nd, fun a h z => W.rt a h (x.there a z), fun a h z => ?_, sn.it⟩⟩
  rcases x.newi a z with z | z
  · exact W.ri a h z
  · exact W.rt a h z
theorem VdK.td {κ : Type} : ∀ {ds : List (κ × D)} {xs : List (κ × Dz.P)} {vs : List (κ × V)}, VdK K H w ds vs → ds.mapM (fun kd => (unP kd.2).map fun x => (kd.1, x)) = some xs → TdK K false H w.I xs vs
  | [], xs, _, .nil, e => by simp at e; subst e; exact .nil
  | (k, d) :: ds, xs, _, .cons a t, e => by
    rw [List.mapM_cons] at e
    cases d with
    | p x =>
      rw [show unP (D.p x) = some x from rfl] at e
      simp only [Option.map_some, Option.pure_def, Option.bind_eq_bind, Option.bind_some] at e
      cases e2 : ds.mapM (fun kd => (unP kd.2).map fun x => (kd.1, x)) with
      | none => rw [e2] at e; simp at e
      | some ys =>
        rw [e2] at e
        simp at e
        subst e
        cases a with
        | p a => exact .cons a (VdK.td t e2)
    | _ => simp [unP] at e
theorem out_at {w' : Wo} {d d' : D} {v : V} {st : Option (List MO)} (W : Sound w H) (x : Ext ⟨[], w.I⟩ H w' H') (sn : Sound w' H') (so : StOk K mg H' w' st) (hv : Vd K H' w' d v) (e : outD d st = some d') :
    ∃ I', Ext w H ⟨w.ρ, I'⟩ H' ∧ Sound ⟨w.ρ, I'⟩ H' ∧ Vd K H' ⟨w.ρ, I'⟩ d' v := by
  have old : ∀ d, noLoc d = true → Vd K H' w' d v → ∃ I', Ext w H ⟨w.ρ, I'⟩ H' ∧ Sound ⟨w.ρ, I'⟩ H' ∧ Vd K H' ⟨w.ρ, I'⟩ d v := fun d n h => by
    obtain ⟨x', sn'⟩ := Ext.back W x sn
    exact ⟨w'.I, x', sn', h.alone n⟩
  cases hv with
  | @loc n a hn =>
    have na : H a = none := by
      rcases x.newr a (List.mem_of_getElem? hn) with z | z
      · cases z
      · exact z
    have x2 : Ext ⟨[], w.I⟩ H ⟨[], fun b => w'.I b ∨ b = a⟩ H' := ⟨x.keep, fun _ _ z => z, fun _ z => .inl z, fun b h => .inl (x.imm b h), fun b h => by
      rcases h with h | rfl
      · exact x.newi b h
      · exact .inr na, x.there, x.tup⟩
    have sn2 : Sound ⟨[], fun b => w'.I b ∨ b = a⟩ H' := ⟨.nil, fun _ z => (nomatch z), fun _ z => (nomatch z), fun b h => h.elim (fun h => sn.it b h) fun z => by rw [z]; exact sn.rt _ (List.mem_of_getElem? hn)⟩
    obtain ⟨x', sn'⟩ := Ext.back W x2 sn2
    refine ⟨fun b => w'.I b ∨ b = a, x', sn', ?_⟩
    have up : MI H' w'.I H' (fun b => w'.I b ∨ b = a) := .sub fun b h => .inl h
    unfold outD at e
    simp only at e
    split at e
    · rename_i S
      split at e
      · rename_i ds em
        obtain ⟨xs, ex, rfl⟩ := Option.map_eq_some_iff.mp e
        cases so.2 n a _ hn em with
        | lst h1 t => exact .p (.lst h1 (.inr rfl) ((t.td ex).mono up))
      · rename_i kvs em
        obtain ⟨xs, ex, rfl⟩ := Option.map_eq_some_iff.mp e
        cases so.2 n a _ hn em with
        | dic h1 t => exact .dic (.inl h1) (.inr rfl) ((t.td ex).mono up)
      · rename_i kvs em
        obtain ⟨xs, ex, rfl⟩ := Option.map_eq_some_iff.mp e
        cases so.2 n a _ hn em with
        | dct h1 t => exact .dct (.inl h1) (.inr rfl) ((t.td ex).mono up)
      · cases e
    · cases e
  | p h => cases e; exact old _ rfl (.p h)
  | fz h1 h3 => cases e; exact old _ rfl (.fz h1 h3)
  | kt h1 h2 => cases e; exact old _ rfl (.kt h1 h2)
  | dic h1 h2 h3 => cases e; exact old _ rfl (.dic h1 h2 h3)
  | dct h1 h2 h3 => cases e; exact old _ rfl (.dct h1 h2 h3)
theorem callP_at {m : Fn} {ds : List D} {vs : List V} {Q : VK} (W : Wd X.K X.mg G.B w σ s H) (t : VdL X.K H w ds vs)
    (h : Post X G (RD X) σ w H (if ds.all noLoc = true then (match m ds (some []) with | .ok d s' => (match outD d s'.st with | some d' => .ok d' s | none => .bad) | .ex c fs => .ex c fs | .bad => .bad) else .bad) Q) : spD X.K X.mg m vs H Q G.E := by
  split at h
  · rename_i hl
    refine ⟨⟨[], w.I⟩, ds, some [], ⟨.nil, fun a h => (by cases h), fun a h => (by cases h), W.snd.it⟩, ⟨rfl, fun n a m e => (by simp at e)⟩, t.alone hl, ?_⟩
    revert h
    cases m ds (some []) with
    | bad => exact fun h => h.elim
    | ex c fs =>
      exact fun h cls dx w' H' x sn xv => by
        obtain ⟨x', sn'⟩ := Ext.back W.snd x sn
        exact h cls dx _ H' (W.ext.trans x') sn' xv
    | ok d s' =>
      intro h v w' H' x sn so hv
      simp only at h
      split at h
      · rename_i d' ed
        obtain ⟨I', x', sn', hv'⟩ := out_at W.snd x sn so hv ed
        exact h v ⟨w.ρ, I'⟩ H' (x'.mono W.snd) (W.step x' sn' (W.sto.mono (fun a o e => x.keep a o e (by simp)) (x'.mono W.snd) rfl)) hv'
      · exact h.elim
  · exact h.elim
theorem callS_at {m : Fn} {ds : List D} {vs : List V} {Q : VK} (W : Wd X.K X.mg G.B w σ s H) (t : VdL X.K H w ds vs)
    (h : Post X G (RD X) σ w H (match m ds s.st with | .ok d s' => .ok d ⟨s.sl, s'.st⟩ | .ex c fs => .ex c fs | .bad => .bad) Q) : spD X.K X.mg m vs H Q G.E := by
  refine ⟨w, ds, s.st, W.snd, W.sto, t, ?_⟩
  revert h
  cases m ds s.st with
  | bad => exact fun h => h.elim
  | ex c fs => exact fun h cls dx w' H' x sn xv => h cls dx w' H' (W.ext.trans x) sn xv
  | ok d s' => exact fun h v w' H' x sn so hv => h v w' H' (x.mono W.snd) (W.step x sn so) hv
/-- a def that is there, at most at this level -/
structure HasD (P : Program) (wd : World) (K : PySem.W.Frag) (mg : Str → Option Value) (base : Heap) (lv : Nat) (x : Str) (ps : List Str) (m : Fn) : Prop where
  here : ∃ fa fd, FnOk P wd K mg base (L2.CX P wd) lv fa fd ps (spD K mg m) ∧ mg x = some (.ref fa) ∧ PySem.W.keepIn K (.ref fa) = true ∧ Binds K fd ps []
variable {lv lw : Nat} {x : Str} {ps : List Str} {m : Fn} {p : Pos} {fa : Sta → Res (List D)} {W0 : WX}
theorem HasD.mono (F : HasD P wd K mg base lv x ps m) (h : lv ≤ lw) : HasD P wd K mg base lw x ps m := by
  obtain ⟨fa, fd, F, h1, h2, h3⟩ := F.here
  exact ⟨fa, fd, F.mono h, h1, h2, h3⟩
/-- the value behind -/
theorem Post.of {α β : Type} {R : Hp → Wo → α → β → Prop} {f : Sta → Res α} {g : α → Sta → Res D} {Q : VK} {Q1 : β → Hp → Prop} (h : Post X G (RD X) σ w H (bnd f g s) Q)
    (k : ∀ a s1 b w1 H1, Wd X.K X.mg G.B w1 σ s1 H1 → R H1 w1 a b → Post X G (RD X) σ w1 H1 (g a s1) Q → Q1 b H1) : Post X G R σ w H (f s) Q1 := h.bind fun a s1 b w1 H1 _ W1 r1 h1 => k a s1 b w1 H1 W1 r1 h1
theorem de_callP (F : HasD X.prog X.w X.K X.mg X.base lv x ps m) (hr : Room lw X.A) (hlv : lv ≤ lw) (hx : Passes (L2.CX X.prog X.w) X G.E) (hg : Gl X x) (ha : DA X G (e :: es) fa)
    (hdb : (x == ("__debug__" : Str)) = false := by decide) (he : starEach (e :: es) X.env = (false, eval e X.env) :: starEach es X.env := by rfl) (hpl : (backTo pos (starEach es X.env)).any (·.1) = false := by rfl) :
    DE X G (.Call (.Name x p) (e :: es) [] pos) (callP m fa) := by
  obtain ⟨fa', fd, Fk, h1, h2, h3⟩ := F.here
  exact PEi (pe_call Fk (hr.mono hlv) hg h1 h2 h3 .nil hx ha hdb he hpl) fun σ H Q ⟨w, s, W, h⟩ => ⟨w, s, W, Post.of h fun ds s1 vs w1 H1 W1 r1 h1 => by
    rw [List.append_nil]
    exact callP_at W1 r1 h1⟩
theorem de_callS (F : HasD X.prog X.w X.K X.mg X.base lv x ps m) (hr : Room lw X.A) (hlv : lv ≤ lw) (hx : Passes (L2.CX X.prog X.w) X G.E) (hg : Gl X x) (ha : DA X G (e :: es) fa)
    (hdb : (x == ("__debug__" : Str)) = false := by decide) (he : starEach (e :: es) X.env = (false, eval e X.env) :: starEach es X.env := by rfl) (hpl : (backTo pos (starEach es X.env)).any (·.1) = false := by rfl) :
    DE X G (.Call (.Name x p) (e :: es) [] pos) (callS m fa) := by
  obtain ⟨fa', fd, Fk, h1, h2, h3⟩ := F.here
  exact PEi (pe_call Fk (hr.mono hlv) hg h1 h2 h3 .nil hx ha hdb he hpl) fun σ H Q ⟨w, s, W, h⟩ => ⟨w, s, W, Post.of h fun ds s1 vs w1 H1 W1 r1 h1 => by
    rw [List.append_nil]
    exact callS_at W1 r1 h1⟩
/-- a body is checked: exceptions and calls -/
theorem passD {X : Cx} {G : Env} (tk : Takes X (fun cls d _ H => G.E cls d H)) : Passes (L2.CX X.prog X.w) X G.E := passes_call tk fun _ _ _ _ h => h
end
end Dz
namespace Dz
open PySem PySem.Spec PyProof.Rows L2
/-! ### what is looked at for a moment -/
inductive Pk where
  | d (x : D) | lin (m : Lin)
def RP (K : PySem.W.Frag) : Hp → Wo → Pk → V → Prop := fun H w p v => match p with
  | .d x => Vd K H w x v
  | .lin m => ∃ a, v = .ref a ∧ LOk K H w.I a m
def seqPk (p : Pk) (s : Sta) : Option (List D) := match p with
  | .d x => seqOf x s
  | .lin (.lst xs) => some (xs.map .p)
  | _ => none
def dicPk (p : Pk) (s : Sta) : Option (List (Key × D)) := match p with
  | .d x => dicOf x s
  | .lin (.dic kvs) => some (kvs.map fun kv => (kv.1, .p kv.2))
  | _ => none
def dctPk (p : Pk) (s : Sta) : Option (List (List Key × D)) := match p with
  | .d x => dctOf x s
  | .lin (.dct kvs) => some (kvs.map fun kv => (kv.1, .p kv.2))
  | _ => none
section
variable {X : Cx} {G : Env} {σ σ' : L2.St} {w w1 w' : Wo} {H H1 H' : Hp} {s s1 s' : Sta} {K : PySem.W.Frag} {mg : Str → Option Value} {B : Ba}
variable {a b c e : Expr} {es : List Expr} {f g h : Ev} {pos p2 p : Pos} {rest : List Expr} {st : Stmt} {sts sts2 : List Stmt} {gs hs : Ex} {x : Str}
theorem seqPk_at {k : Pk} {v : V} {ds : List D} (W : Wd K mg B w σ s H) (h : RP K H w k v) (e : seqPk k s = some ds) : ∃ a vs, v = .ref a ∧ (SqL K H a vs ∨ SqT K H a vs) ∧ VdL K H w ds vs := by
  cases k with
  | d x => exact seq_at W h e
  | lin m =>
    obtain ⟨a, rfl, l⟩ := h
    cases l with
    | lst h t => cases e; exact ⟨a, _, rfl, .inl (.of h), t.vd⟩
    | dic _ _ => cases e
    | dct _ _ => cases e
theorem dicPk_at {k : Pk} {v : V} {ds : List (Key × D)} (W : Wd K mg B w σ s H) (h : RP K H w k v) (e : dicPk k s = some ds) : ∃ a vs, v = .ref a ∧ Rd H a (.dK vs) ∧ VdK K H w ds vs := by
  cases k with
  | d x => exact dic_at W h e
  | lin m =>
    obtain ⟨a, rfl, l⟩ := h
    cases l with
    | dic h t => cases e; exact ⟨a, _, rfl, .inl h, t.vd⟩
    | lst _ _ => cases e
    | dct _ _ => cases e
theorem dctPk_at {k : Pk} {v : V} {ds : List (List Key × D)} (W : Wd K mg B w σ s H) (h : RP K H w k v) (e : dctPk k s = some ds) : ∃ a vs, v = .ref a ∧ Rd H a (.dT vs) ∧ VdK K H w ds vs := by
  cases k with
  | d x => exact dct_at W h e
  | lin m =>
    obtain ⟨a, rfl, l⟩ := h
    cases l with
    | dct h t => cases e; exact ⟨a, _, rfl, .inl h, t.vd⟩
    | lst _ _ => cases e
    | dic _ _ => cases e
def tP (X : Cx) (G : Env) (f : Sta → Res Pk) : TE := fun σ H Q => ∃ w s, Wd X.K X.mg G.B w σ s H ∧ Post X G (RP X.K) σ w H (f s) Q
def DP (X : Cx) (G : Env) (e : Expr) (f : Sta → Res Pk) : Prop := PE X e (tP X G f)
def asPk (f : Ev) : Sta → Res Pk := bnd f fun d s => .ok (.d d) s
/-- a name that is looked at -/
def pk (i : Nat) : Sta → Res Pk := fun s => match s.sl[i]? with
  | some (.v d) => .ok (.d d) s
  | some (.lin m) => .ok (.lin m) s
  | _ => .bad
theorem dp_of (ha : DE X G a f) : DP X G a (asPk f) := PEi ha fun σ H Q ⟨w, s, W, h⟩ => ⟨w, s, W, h.bind fun d s1 v w1 H1 m1 W1 r1 h1 => Post.here (R := RP X.K) W1 (show RP X.K H1 w1 (.d d) v from r1) h1⟩
theorem dp_var {i : Nat} {x : Str} {pos : Pos} (hN : X.N[i]? = some x := by rfl) (hv : Vis X.env.scope x := by first | exact Or.inl rfl | exact Or.inr (Or.inl rfl) | exact Or.inr (Or.inr rfl)) (hd : (x == ("__debug__" : Str)) = false := by decide)
    (hcd : (x == ("__classdict__" : Str)) = false := by decide) : DP X G (.Name x pos) (pk i) :=
  PEi (pe_var (i := i) hN hv hd hcd) fun σ H Q ⟨w, s, W, h⟩ => by
    unfold pk at h
    split at h
    · rename_i d e
      obtain ⟨v, e1, h1⟩ := W.sl i _ e
      exact ⟨v, e1, Post.here (R := RP X.K) W (show RP X.K H w (.d d) v from h1) h⟩
    · rename_i m e
      obtain ⟨a, e1, l, _⟩ := W.sl i _ e
      exact ⟨_, e1, Post.here (R := RP X.K) W (show RP X.K H w (.lin m) (.ref a) from ⟨a, rfl, l⟩) h⟩
    · exact h.elim
variable {fp : Sta → Res Pk}
/-! ### builtins of one value -/
def U1P (X : Cx) (G : Env) (r : List V → Hp → VK → Prop) (k : Pk → Ev) : Prop := ∀ σ w s H p v Q, Wd X.K X.mg G.B w σ s H → RP X.K H w p v → Post X G (RD X) σ w H (k p s) Q → r [v] H Q
def U1F (X : Cx) (G : Env) (r : List V → Hp → VK → Prop) (k : Pk → Sta → Res Lin) : Prop := ∀ σ w s H p v Q, Wd X.K X.mg G.B w σ s H → RP X.K H w p v → PostF X G σ w H (k p s) Q → r [v] H Q
theorem de_b1 {id : String} {r : List V → Hp → VK → Prop} {k : Pk → Ev} (hc : CallR X (.builtin id) r) (hk : U1P X G r k) (hg : Gl X x) (hm : X.mg x = none) (hv : bootBuiltins x = some (.builtin id)) (ha : DP X G a fp) (hn : x ≠ "__name__" := by decide) (hdb : (x == ("__debug__" : Str)) = false := by decide)
    (h1 : starEach [a] X.env = (false, eval a X.env) :: starEach [] X.env := by rfl) (hpl : (backTo pos (starEach [] X.env)).any (·.1) = false := by rfl) : DE X G (.Call (.Name x p) [a] [] pos) (bnd fp k) :=
  PEi (pe_callB hc hg hm hv (pa_cons ha pa_nil h1) hn hdb h1 hpl) fun σ H Q ⟨w, s, W, h⟩ => ⟨w, s, W, h.bind fun q s1 v w1 H1 m1 W1 r1 h1 => hk _ _ _ _ _ _ _ W1 r1 h1⟩
theorem de_t1 {T : String} {r : List V → Hp → VK → Prop} {k : Pk → Ev} (hc : CallR X (.type T) r) (hk : U1P X G r k) (hg : Gl X x) (hm : X.mg x = none) (hv : bootBuiltins x = some (.type T)) (ha : DP X G a fp) (hn : x ≠ "__name__" := by decide) (hdb : (x == ("__debug__" : Str)) = false := by decide)
    (h1 : starEach [a] X.env = (false, eval a X.env) :: starEach [] X.env := by rfl) (hpl : (backTo pos (starEach [] X.env)).any (·.1) = false := by rfl) : DE X G (.Call (.Name x p) [a] [] pos) (bnd fp k) :=
  PEi (pe_callTy hc hg hm hv (pa_cons ha pa_nil h1) hn hdb h1 hpl) fun σ H Q ⟨w, s, W, h⟩ => ⟨w, s, W, h.bind fun q s1 v w1 H1 m1 W1 r1 h1 => hk _ _ _ _ _ _ _ W1 r1 h1⟩
theorem df_b1 {id : String} {r : List V → Hp → VK → Prop} {k : Pk → Sta → Res Lin} (hc : CallR X (.builtin id) r) (hk : U1F X G r k) (hg : Gl X x) (hm : X.mg x = none) (hv : bootBuiltins x = some (.builtin id)) (ha : DP X G a fp) (hn : x ≠ "__name__" := by decide) (hdb : (x == ("__debug__" : Str)) = false := by decide)
    (h1 : starEach [a] X.env = (false, eval a X.env) :: starEach [] X.env := by rfl) (hpl : (backTo pos (starEach [] X.env)).any (·.1) = false := by rfl) : DF X G (.Call (.Name x p) [a] [] pos) (bnd fp k) :=
  PEi (pe_callB hc hg hm hv (pa_cons ha pa_nil h1) hn hdb h1 hpl) fun σ H Q ⟨w, s, W, h⟩ => ⟨w, s, W, PostF.bind h fun q s1 v w1 H1 m1 W1 r1 h1 => hk _ _ _ _ _ _ _ W1 r1 h1⟩
theorem df_t1 {T : String} {r : List V → Hp → VK → Prop} {k : Pk → Sta → Res Lin} (hc : CallR X (.type T) r) (hk : U1F X G r k) (hg : Gl X x) (hm : X.mg x = none) (hv : bootBuiltins x = some (.type T)) (ha : DP X G a fp) (hn : x ≠ "__name__" := by decide) (hdb : (x == ("__debug__" : Str)) = false := by decide)
    (h1 : starEach [a] X.env = (false, eval a X.env) :: starEach [] X.env := by rfl) (hpl : (backTo pos (starEach [] X.env)).any (·.1) = false := by rfl) : DF X G (.Call (.Name x p) [a] [] pos) (bnd fp k) :=
  PEi (pe_callTy hc hg hm hv (pa_cons ha pa_nil h1) hn hdb h1 hpl) fun σ H Q ⟨w, s, W, h⟩ => ⟨w, s, W, PostF.bind h fun q s1 v w1 H1 m1 W1 r1 h1 => hk _ _ _ _ _ _ _ W1 r1 h1⟩
/-- by a pure function of the data -/
def fnK (k : Pk → Sta → Option P) : Pk → Ev := fun p s => match k p s with
  | some x => .ok (.p x) s
  | none => .bad
theorem fnK_at {k : Pk → Sta → Option P} {q : Pk} {Q : VK} (h : Post X G (RD X) σ w H (fnK k q s) Q) : ∃ x, k q s = some x ∧ Post X G (RD X) σ w H (.ok (.p x) s) Q := by
  unfold fnK at h
  split at h
  · rename_i x e; exact ⟨x, e, h⟩
  · exact h.elim
/-- len -/
def lenP (p : Pk) (s : Sta) : Option P := match p with
  | .d (.p (.str x)) => if x.length ≤ sizeLine then some (.int x.length) else none
  | p => match seqPk p s with
    | some ds => some (.int ds.length)
    | none => match dicPk p s with
      | some kvs => some (.int kvs.length)
      | none => (dctPk p s).map fun kvs => .int kvs.length
theorem call_lenRd : CallR X (.builtin "len") (fun xs H Q => ∃ a kvs, xs = [V.ref a] ∧ Rd H a (.dK kvs) ∧ Q (.int kvs.length) H) := by
  intro pins s σ H xs us Q I r h
  obtain ⟨a, kvs, rfl, ha, q⟩ := h
  obtain ⟨u, rfl, ru⟩ := vals1 r
  cases ru
  exact d_len I ha fun t s' I' => ⟨.int kvs.length, H, I', ⟨t, rfl⟩, q⟩
theorem call_lenRdT : CallR X (.builtin "len") (fun xs H Q => ∃ a kvs, xs = [V.ref a] ∧ Rd H a (.dT kvs) ∧ Q (.int ((kvs.length : Nat) : Int)) H) := by
  intro pins s σ H xs us Q I r h
  obtain ⟨p, kvs, rfl, hp, q⟩ := h
  obtain ⟨u, rfl, rx⟩ := vals1 r
  obtain rfl : u = .ref p := rx
  obtain ⟨z, hd, ys, rel, dd⟩ := dt_rd I.hok hp
  have hl : kvs.length = ys.length := Paired.length rel
  refine call_len_dictH hd dd (by rw [← hl]; rw [sizeLine_eq] at z; omega) ?_
  rw [← hl]
  exact ⟨.int ((kvs.length : Nat) : Int), H, I.tok _, ⟨_, rfl⟩, q⟩
def rLen (K : PySem.W.Frag) : List V → Hp → VK → Prop := fun xs H Q => (∃ x, xs = [.str x] ∧ x.length ≤ sizeLine ∧ Q (.int x.length) H) ∨ ((∃ p ys, xs = [.ref p] ∧ (SqL K H p ys ∨ SqT K H p ys) ∧ Q (.int ys.length) H) ∨ ((∃ a kvs, xs = [V.ref a] ∧ Rd H a (.dK kvs) ∧ Q (.int kvs.length) H) ∨ ∃ a kvs, xs = [V.ref a] ∧ Rd H a (.dT kvs) ∧ Q (.int ((kvs.length : Nat) : Int)) H))
theorem call_lenP : CallR X (.builtin "len") (rLen X.K) := call_len_str.or (call_len_seq.or (call_lenRd.or call_lenRdT))
theorem VdK.len {κ : Type} {ds : List (κ × D)} {vs : List (κ × V)} (t : VdK K H w ds vs) : ds.length = vs.length := by induction t <;> simp_all
theorem u_len : U1P X G (rLen X.K) (fnK lenP) := by
  intro σ w s H q v Q W r h
  obtain ⟨x, e, h⟩ := fnK_at h
  unfold lenP at e
  split at e
  · split at e
    · rename_i hz
      cases e
      cases (show Vd X.K H w _ v from r) with
      | p t => cases t; exact .inl ⟨_, rfl, hz, Post.here W (.p (.int _)) h⟩
    · cases e
  · split at e
    · rename_i ds es
      cases e
      obtain ⟨a, vs, rfl, hq, tl⟩ := seqPk_at W r es
      exact .inr (.inl ⟨a, vs, rfl, hq, by rw [← tl.len]; exact Post.here W (.p (.int _)) h⟩)
    · split at e
      · rename_i kvs ek
        cases e
        obtain ⟨a, vs, rfl, hq, tl⟩ := dicPk_at W r ek
        exact .inr (.inr (.inl ⟨a, vs, rfl, hq, by rw [← tl.len]; exact Post.here W (.p (.int _)) h⟩))
      · obtain ⟨kvs, ek, rfl⟩ := Option.map_eq_some_iff.mp e
        obtain ⟨a, vs, rfl, hq, tl⟩ := dctPk_at W r ek
        exact .inr (.inr (.inr ⟨a, vs, rfl, hq, by rw [← tl.len]; exact Post.here W (.p (.int _)) h⟩))
theorem de_len (hg : Gl X "len") (hm : X.mg "len" = none) (ha : DP X G a fp) (h1 : starEach [a] X.env = (false, eval a X.env) :: starEach [] X.env := by rfl) : DE X G (.Call (.Name "len" p) [a] [] pos) (bnd fp (fnK lenP)) := de_b1 call_lenP u_len hg hm PySem.boot_len ha (h1 := h1)
/-- abs, int, bool, str -/
def absP (p : Pk) (_ : Sta) : Option P := match p with
  | .d (.p (.int i)) => some (.int (if i < 0 then -i else i))
  | _ => none
def intP (p : Pk) (_ : Sta) : Option P := match p with
  | .d (.p (.int i)) => some (.int i)
  | .d (.p (.bl b)) => some (.int (if b then 1 else 0))
  | _ => none
def boolP (p : Pk) (_ : Sta) : Option P := match p with
  | .d (.p (.int i)) => some (.bl (i != 0))
  | .d (.p (.bl b)) => some (.bl b)
  | _ => none
def strP (p : Pk) (_ : Sta) : Option P := match p with
  | .d (.p (.int i)) => if i.natAbs.log2 < 1920 then some (.str (toString i)) else none
  | _ => none
theorem u_abs : U1P X G (fun xs H Q => ∃ i, xs = [.int i] ∧ Q (.int (if i < 0 then -i else i)) H) (fnK absP) := by
  intro σ w s H q v Q W r h
  obtain ⟨x, e, h⟩ := fnK_at h
  unfold absP at e
  split at e
  · cases e; cases (show Vd X.K H w _ v from r) with | p t => cases t; exact ⟨_, rfl, Post.here W (.p (.int _)) h⟩
  · cases e
theorem u_intc : U1P X G (fun xs H Q => (∃ i, xs = [.int i] ∧ Q (.int i) H) ∨ ∃ k, xs = [.bl k] ∧ Q (.int (if k then 1 else 0)) H) (fnK intP) := by
  intro σ w s H q v Q W r h
  obtain ⟨x, e, h⟩ := fnK_at h
  unfold intP at e
  split at e
  · cases e; cases (show Vd X.K H w _ v from r) with | p t => cases t; exact .inl ⟨_, rfl, Post.here W (.p (.int _)) h⟩
  · cases e; cases (show Vd X.K H w _ v from r) with | p t => cases t; exact .inr ⟨_, rfl, Post.here W (.p (.int _)) h⟩
  · cases e
theorem u_boolc : U1P X G (fun xs H Q => (∃ i, xs = [.int i] ∧ Q (.bl (i != 0)) H) ∨ ∃ k, xs = [.bl k] ∧ Q (.bl k) H) (fnK boolP) := by
  intro σ w s H q v Q W r h
  obtain ⟨x, e, h⟩ := fnK_at h
  unfold boolP at e
  split at e
  · cases e; cases (show Vd X.K H w _ v from r) with | p t => cases t; exact .inl ⟨_, rfl, Post.here W (.p (.bl _)) h⟩
  · cases e; cases (show Vd X.K H w _ v from r) with | p t => cases t; exact .inr ⟨_, rfl, Post.here W (.p (.bl _)) h⟩
  · cases e
theorem u_strc : U1P X G (fun xs H Q => ∃ i, xs = [.int i] ∧ i.natAbs.log2 < 1920 ∧ Q (.str (toString i)) H) (fnK strP) := by
  intro σ w s H q v Q W r h
  obtain ⟨x, e, h⟩ := fnK_at h
  unfold strP at e
  split at e
  · split at e
    · rename_i hz; cases e; cases (show Vd X.K H w _ v from r) with | p t => cases t; exact ⟨_, rfl, hz, Post.here W (.p (.str _)) h⟩
    · cases e
  · cases e
theorem de_abs (hg : Gl X "abs") (hm : X.mg "abs" = none) (ha : DP X G a fp) (h1 : starEach [a] X.env = (false, eval a X.env) :: starEach [] X.env := by rfl) : DE X G (.Call (.Name "abs" p) [a] [] pos) (bnd fp (fnK absP)) := de_b1 call_abs u_abs hg hm (by decide +kernel) ha (h1 := h1)
theorem de_intc (hg : Gl X "int") (hm : X.mg "int" = none) (ha : DP X G a fp) (h1 : starEach [a] X.env = (false, eval a X.env) :: starEach [] X.env := by rfl) : DE X G (.Call (.Name "int" p) [a] [] pos) (bnd fp (fnK intP)) := de_t1 call_int1 u_intc hg hm (by decide +kernel) ha (h1 := h1)
theorem de_boolc (hg : Gl X "bool") (hm : X.mg "bool" = none) (ha : DP X G a fp) (h1 : starEach [a] X.env = (false, eval a X.env) :: starEach [] X.env := by rfl) : DE X G (.Call (.Name "bool" p) [a] [] pos) (bnd fp (fnK boolP)) := de_t1 call_bool1 u_boolc hg hm (by decide +kernel) ha (h1 := h1)
theorem de_strc (hg : Gl X "str") (hm : X.mg "str" = none) (ha : DP X G a fp) (h1 : starEach [a] X.env = (false, eval a X.env) :: starEach [] X.env := by rfl) : DE X G (.Call (.Name "str" p) [a] [] pos) (bnd fp (fnK strP)) := de_t1 call_str_int u_strc hg hm (by decide +kernel) ha (h1 := h1)
/-- tuple(xs), list(xs) -/
def tupP (p : Pk) (s : Sta) : Option P := match p with
  | .lin (.lst xs) => some (.tup xs)
  | .d (.p (.lst xs)) => some (.tup xs)
  | .d (.p (.tup xs)) => some (.tup xs)
  | .d (.loc n) => match s.st with
    | some S => match S[n]? with
      | some (.lst ds) => (ds.mapM unP).map .tup
      | _ => none
    | none => none
  | _ => none
theorem u_tupc : U1P X G (fun xs H Q => ∃ p ys, xs = [.ref p] ∧ ((SqL X.K H p ys ∧ ∀ l, H l = none → Q (.ref l) (upd H l (.tup ys))) ∨ (SqT X.K H p ys ∧ Q (.ref p) H))) (fnK tupP) := by
  intro σ w s H q v Q W r h
  obtain ⟨x, e, h⟩ := fnK_at h
  unfold tupP at e
  split at e
  · cases e
    obtain ⟨a, rfl, l⟩ := r
    cases l with
    | lst h1 t => exact ⟨a, _, rfl, .inl ⟨.of h1, fun l nl => Post.newT W t nl h⟩⟩
  · cases e
    cases (show Vd X.K H w _ v from r) with
    | p t => cases t with | lst h1 h2 t => exact ⟨_, _, rfl, .inl ⟨.of h1, fun l nl => Post.newT W t nl h⟩⟩
  · cases e
    cases (show Vd X.K H w _ v from r) with
    | p t =>
      cases t with
      | tup h1 t => exact ⟨_, _, rfl, .inr ⟨.of h1, Post.here W (.p (.tup h1 t)) h⟩⟩
      | tupK hq _ _ => cases hq
  · rename_i n
    split at e
    · rename_i S es
      split at e
      · rename_i ds em
        obtain ⟨xs, ex, rfl⟩ := Option.map_eq_some_iff.mp e
        cases (show Vd X.K H w (.loc n) v from r) with
        | @loc _ a hn =>
          have so := W.sto
          rw [es] at so
          cases so.2 n a _ hn em with
          | lst h1 t => exact ⟨a, _, rfl, .inl ⟨.of h1, fun l nl => Post.newT W (t.td ex) nl h⟩⟩
      · cases e
    · cases e
  · cases e
def listF (p : Pk) (s : Sta) : Res Lin := match seqPk p s with
  | some ds => match ds.mapM unP with
    | some xs => .ok (.lst xs) s
    | none => .bad
  | none => .bad
theorem u_listc : U1F X G (fun xs H Q => ∃ p ys, xs = [.ref p] ∧ (SqL X.K H p ys ∨ SqT X.K H p ys) ∧ ∀ l, H l = none → Q (.ref l) (upd H l (.lst ys))) listF := by
  intro σ w s H q v Q W r h
  unfold listF at h
  split at h
  · rename_i ds es
    split at h
    · rename_i xs ex
      obtain ⟨a, vs, rfl, hq, tl⟩ := seqPk_at W r es
      exact ⟨a, vs, rfl, hq, fun l nl => PostF.new W nl (fun mo => .lst upd_same ((tl.td ex).mono mo.imm)) h⟩
    · exact h.elim
  · exact h.elim
theorem de_tupc (hg : Gl X "tuple") (hm : X.mg "tuple" = none) (ha : DP X G a fp) (h1 : starEach [a] X.env = (false, eval a X.env) :: starEach [] X.env := by rfl) : DE X G (.Call (.Name "tuple" p) [a] [] pos) (bnd fp (fnK tupP)) := de_t1 call_tuple_of u_tupc hg hm (by decide +kernel) ha (h1 := h1)
theorem df_listc (hg : Gl X "list") (hm : X.mg "list" = none) (ha : DP X G a fp) (h1 : starEach [a] X.env = (false, eval a X.env) :: starEach [] X.env := by rfl) : DF X G (.Call (.Name "list" p) [a] [] pos) (bnd fp listF) := df_t1 call_list_of u_listc hg hm (by decide +kernel) ha (h1 := h1)
end
end Dz
namespace Dz
open PySem PySem.Spec PyProof.Rows L2
section
variable {X : Cx} {G : Env} {σ σ' : L2.St} {w w1 w' : Wo} {H H1 H' : Hp} {s s1 s' : Sta} {K : PySem.W.Frag} {mg : Str → Option Value} {B : Ba}
variable {a b c e : Expr} {es : List Expr} {f g h : Ev} {pos p2 p : Pos} {rest : List Expr} {st : Stmt} {sts sts2 : List Stmt} {gs hs : Ex} {x : Str}
variable {fp : Sta → Res Pk} {fa : Sta → Res (List D)}
/-! ### isinstance(x, T) -/
inductive Kn where
  | non | bl | int | str | lst | tup
  deriving DecidableEq
def knd : P → Kn
  | .non => .non | .bl _ => .bl | .int _ => .int | .str _ => .str | .lst _ => .lst | .tup _ => .tup
def Kn.nm : Kn → String
  | .non => "NoneType" | .bl => "bool" | .int => "int" | .str => "str" | .lst => "list" | .tup => "tuple"
abbrev tyP (x : P) : String := (knd x).nm
/-- the five built-in types that are asked for -/
inductive Ty5 where
  | int | str | bool | tuple | list
def Ty5.nm : Ty5 → String
  | .int => "int" | .str => "str" | .bool => "bool" | .tuple => "tuple" | .list => "list"
def isiK : Kn → Ty5 → Bool
  | .int, .int => true | .bl, .int => true | .bl, .bool => true | .str, .str => true | .tup, .tuple => true | .lst, .list => true
  | _, _ => false
abbrev isiB (x : P) (T : Ty5) : Bool := isiK (knd x) T
theorem kit5' (k : Kn) (T : Ty5) : kitB k.nm T.nm = some (isiK k T) := by
  cases k <;> cases T <;> decide +kernel
def isiP (T : Ty5) (p : Pk) (_ : Sta) : Option P := match p with
  | .d (.p x) => some (.bl (isiB x T))
  | .d (.kt xs) => some (.bl (isiB (.tup xs) T))
  | _ => none
theorem kit5 (x : P) (T : Ty5) : PySem.W.kitOne K (.type (tyP x)) (.type T.nm) = some (isiB x T) := kit_ty (kit5' (knd x) T)
theorem ty_of {x : P} {v : V} {J : Addr → Prop} (t : Td K false H J x v) : TyX K H v (.type (tyP x)) := by
  cases t with
  | non => exact .base .non
  | bl b => exact .base (.bl b)
  | int i => exact .base (.int i)
  | str z => exact .base (.str z)
  | lst h _ _ => exact .base (.lst h)
  | tup h _ => exact .base (.tup h)
  | tupK hq _ _ => cases hq
theorem ty_kt {a : Addr} {vs : List V} (h : ∀ H, SqT K H a vs) : TyX K H (.ref a) (.type "tuple") := by
  rcases h (fun _ => Option.none) with (z | ⟨_, z⟩) | ⟨o, its, n, k1, k2, _⟩
  · cases z
  · cases z
  · exact .kTuple k1 k2
theorem de_isi {T : Ty5} {pT : Pos} {nT : Str} (hg : Gl X "isinstance") (hm : X.mg "isinstance" = none) (hgT : Gl X nT) (hmT : X.mg nT = none) (hT : bootBuiltins nT = some (.type T.nm)) (ha : DP X G a fp)
    (hn : nT ≠ "__name__" := by decide) (hdb : (nT == ("__debug__" : Str)) = false := by decide)
    (h1 : starEach [a, .Name nT pT] X.env = (false, eval a X.env) :: starEach [.Name nT pT] X.env := by rfl) (h2 : starEach [.Name nT pT] X.env = (false, eval (.Name nT pT) X.env) :: starEach [] X.env := by rfl) (hpl : (backTo pos (starEach [.Name nT pT] X.env)).any (·.1) = false := by rfl) :
    DE X G (.Call (.Name "isinstance" p) [a, .Name nT pT] [] pos) (bnd fp (fnK (isiP T))) :=
  PEi (pe_callB call_isi hg hm (by decide +kernel) (pa_cons ha (pa_cons (pe_bltn (v := .ty T.nm) hgT hmT hT rfl hn hdb) pa_nil h2) h1) (he := h1) (hpl := hpl)) fun σ H Q ⟨w, s, W, h⟩ => ⟨w, s, W, h.bind fun q s1 v w1 H1 m1 W1 r1 h1 => by
    obtain ⟨x, e, h1⟩ := fnK_at h1
    unfold isiP at e
    split at e
    · rename_i y
      cases e
      cases (show Vd X.K H1 w1 _ v from r1) with
      | p t => exact ⟨v, .ty T.nm, _, _, _, rfl, .ty _, ty_of t, kit5 y T, Post.here W1 (.p (.bl _)) h1⟩
    · rename_i xs
      cases e
      cases (show Vd X.K H1 w1 _ v from r1) with
      | @kt a _ vs h h' => exact ⟨_, .ty T.nm, _, _, _, rfl, .ty _, ty_kt h, kit5 (.tup xs) T, Post.here W1 (.p (.bl _)) h1⟩
    · cases e⟩
/-! ### max(a, b), min(a, b) -/
def maxD (ds : List D) : Ev := match ds with
  | [.p (.int i), .p (.int j)] => cst (.p (.int (if j > i then j else i)))
  | _ => bad1
def minD (ds : List D) : Ev := match ds with
  | [.p (.int i), .p (.int j)] => cst (.p (.int (if j < i then j else i)))
  | _ => bad1
theorem two_ints {vs : List V} {i j : Int} (r : VdL K H w [.p (.int i), .p (.int j)] vs) : vs = [.int i, .int j] := by
  cases r with
  | cons r1 r2 =>
    cases r2 with
    | cons r2 r3 =>
      cases r3
      cases r1 with | p t => cases t; cases r2 with | p t => cases t; rfl
theorem de_max2 (hc : X.calm = true) (hg : Gl X "max") (hm : X.mg "max" = none) (ha : DA X G [a, b] fa) (he : starEach [a, b] X.env = (false, eval a X.env) :: starEach [b] X.env := by rfl) (hpl : (backTo pos (starEach [b] X.env)).any (·.1) = false := by rfl) :
    DE X G (.Call (.Name "max" p) [a, b] [] pos) (bnd fa maxD) :=
  PEi (pe_callB (call_max2 hc) hg hm (by decide +kernel) ha (he := he) (hpl := hpl)) fun σ H Q ⟨w, s, W, h⟩ => ⟨w, s, W, h.bind fun ds s1 vs w1 H1 m1 W1 r1 h1 => by
    unfold maxD at h1
    split at h1
    · exact ⟨_, _, two_ints (show VdL X.K H1 w1 _ vs from r1), Post.here W1 (.p (.int _)) h1⟩
    · exact h1.elim⟩
theorem de_min2 (hc : X.calm = true) (hg : Gl X "min") (hm : X.mg "min" = none) (ha : DA X G [a, b] fa) (he : starEach [a, b] X.env = (false, eval a X.env) :: starEach [b] X.env := by rfl) (hpl : (backTo pos (starEach [b] X.env)).any (·.1) = false := by rfl) :
    DE X G (.Call (.Name "min" p) [a, b] [] pos) (bnd fa minD) :=
  PEi (pe_callB (call_min2 hc) hg hm (by decide +kernel) ha (he := he) (hpl := hpl)) fun σ H Q ⟨w, s, W, h⟩ => ⟨w, s, W, h.bind fun ds s1 vs w1 H1 m1 W1 r1 h1 => by
    unfold minD at h1
    split at h1
    · exact ⟨_, _, two_ints (show VdL X.K H1 w1 _ vs from r1), Post.here W1 (.p (.int _)) h1⟩
    · exact h1.elim⟩
/-! ### sum, max, min, any, all of a list -/
def intsOf (p : Pk) (s : Sta) : Option (List Int) := (seqPk p s).bind fun ds => ds.mapM fun d => match d with
  | .p (.int i) => some i
  | _ => none
def blsOf (p : Pk) (s : Sta) : Option (List Bool) := (seqPk p s).bind fun ds => ds.mapM fun d => match d with
  | .p (.bl i) => some i
  | _ => none
theorem ints_v : ∀ {ds : List D} {vs : List V} {ns : List Int}, VdL K H w ds vs → (ds.mapM fun d => match d with | .p (.int i) => some i | _ => none) = some ns → vs = ns.map V.int
  | [], _, _, .nil, e => by simp at e; subst e; rfl
  | d :: ds, _, ns, .cons a t, e => by
    rw [List.mapM_cons] at e
    cases a with
    | p t1 =>
      cases t1 with
      | int i =>
        simp only [Option.pure_def, Option.bind_eq_bind, Option.bind_some] at e
        cases e2 : (ds.mapM fun d => match d with | .p (.int i) => some i | _ => none) with
        | none => rw [e2] at e; simp at e
        | some ns' => rw [e2] at e; simp at e; subst e; rw [ints_v t e2]; rfl
      | _ => simp at e
    | _ => simp at e
theorem bls_v : ∀ {ds : List D} {vs : List V} {ns : List Bool}, VdL K H w ds vs → (ds.mapM fun d => match d with | .p (.bl i) => some i | _ => none) = some ns → vs = ns.map V.bl
  | [], _, _, .nil, e => by simp at e; subst e; rfl
  | d :: ds, _, ns, .cons a t, e => by
    rw [List.mapM_cons] at e
    cases a with
    | p t1 =>
      cases t1 with
      | bl i =>
        simp only [Option.pure_def, Option.bind_eq_bind, Option.bind_some] at e
        cases e2 : (ds.mapM fun d => match d with | .p (.bl i) => some i | _ => none) with
        | none => rw [e2] at e; simp at e
        | some ns' => rw [e2] at e; simp at e; subst e; rw [bls_v t e2]; rfl
      | _ => simp at e
    | _ => simp at e
/-- a list, not a tuple -/
def isLst (p : Pk) (s : Sta) : Bool := match p with
  | .lin (.lst _) => true
  | .d (.p (.lst _)) => true
  | .d (.fz _) => true
  | .d (.loc n) => match s.st with
    | some S => match S[n]? with
      | some (.lst _) => true
      | _ => false
    | none => false
  | _ => false
theorem lst_at' {k : Pk} {v : V} {ds : List D} (W : Wd K mg B w σ s H) (h : RP K H w k v) (e : seqPk k s = some ds) (l : isLst k s = true) : ∃ a vs, v = .ref a ∧ SqL K H a vs ∧ VdL K H w ds vs := by
  cases k with
  | lin m =>
    obtain ⟨a, rfl, lk⟩ := h
    cases lk with
    | lst h t => cases e; exact ⟨a, _, rfl, .of h, t.vd⟩
    | dic _ _ => cases e
    | dct _ _ => cases e
  | d x =>
    have h : Vd K H w x v := h
    have e : seqOf x s = some ds := e
    cases h with
    | p t =>
      cases t with
      | lst h1 h2 t => simp [seqOf] at e; subst e; exact ⟨_, _, rfl, .of h1, t.vd⟩
      | _ => cases l
    | fz h1 t => simp [seqOf] at e; subst e; exact ⟨_, _, rfl, h1.sq, t.vd⟩
    | kt _ _ => cases l
    | @loc n a hn =>
      have so := W.sto
      unfold seqOf at e
      unfold isLst at l
      cases es : s.st with
      | none => rw [es] at e; simp at e
      | some S =>
        rw [es] at e so l
        simp only at e l
        cases em : S[n]? with
        | none => rw [em] at e; simp at e
        | some m =>
          rw [em] at e l
          cases so.2 n a _ hn em with
          | lst h1 t => simp at e; subst e; exact ⟨_, _, rfl, .of h1, t⟩
          | _ => cases l
    | dic _ _ _ => cases e
    | dct _ _ _ => cases e
def sumP (p : Pk) (s : Sta) : Option P := if isLst p s = true then (intsOf p s).map fun ns => .int ns.sum else none
def allP (p : Pk) (s : Sta) : Option P := if isLst p s = true then (blsOf p s).map fun bs => .bl (bs.all id) else none
def anyP (p : Pk) (s : Sta) : Option P := if isLst p s = true then (blsOf p s).map fun bs => .bl (bs.any id) else none
/-- the greatest, the least -/
def maxL : List Int → Option Int
  | [] => none
  | i :: is => some (is.foldl max i)
def minL : List Int → Option Int
  | [] => none
  | i :: is => some (is.foldl min i)
def maxP (p : Pk) (s : Sta) : Option P := if isLst p s = true then ((intsOf p s).bind maxL).map .int else none
def minP (p : Pk) (s : Sta) : Option P := if isLst p s = true then ((intsOf p s).bind minL).map .int else none
theorem intsAt {k : Pk} {v : V} {ns : List Int} (W : Wd K mg B w σ s H) (h : RP K H w k v) (l : isLst k s = true) (e : intsOf k s = some ns) : ∃ a, v = .ref a ∧ SqL K H a (ns.map V.int) := by
  obtain ⟨ds, e1, e2⟩ := Option.bind_eq_some_iff.mp e
  obtain ⟨a, vs, rfl, hq, tl⟩ := lst_at' W h e1 l
  exact ⟨a, rfl, by rw [← ints_v tl e2]; exact hq⟩
theorem blsAt {k : Pk} {v : V} {ns : List Bool} (W : Wd K mg B w σ s H) (h : RP K H w k v) (l : isLst k s = true) (e : blsOf k s = some ns) : ∃ a, v = .ref a ∧ SqL K H a (ns.map V.bl) := by
  obtain ⟨ds, e1, e2⟩ := Option.bind_eq_some_iff.mp e
  obtain ⟨a, vs, rfl, hq, tl⟩ := lst_at' W h e1 l
  exact ⟨a, rfl, by rw [← bls_v tl e2]; exact hq⟩
theorem u_sum : U1P X G (rSum X.K) (fnK sumP) := by
  intro σ w s H q v Q W r h
  obtain ⟨x, e, h⟩ := fnK_at h
  unfold sumP at e
  split at e
  · rename_i l
    obtain ⟨ns, en, rfl⟩ := Option.map_eq_some_iff.mp e
    obtain ⟨a, rfl, hq⟩ := intsAt W r l en
    exact ⟨a, ns, rfl, hq, Post.here W (.p (.int _)) h⟩
  · cases e
theorem u_all : U1P X G (rAll X.K) (fnK allP) := by
  intro σ w s H q v Q W r h
  obtain ⟨x, e, h⟩ := fnK_at h
  unfold allP at e
  split at e
  · rename_i l
    obtain ⟨ns, en, rfl⟩ := Option.map_eq_some_iff.mp e
    obtain ⟨a, rfl, hq⟩ := blsAt W r l en
    exact ⟨a, ns, rfl, hq, Post.here W (.p (.bl _)) h⟩
  · cases e
theorem u_any : U1P X G (rAny X.K) (fnK anyP) := by
  intro σ w s H q v Q W r h
  obtain ⟨x, e, h⟩ := fnK_at h
  unfold anyP at e
  split at e
  · rename_i l
    obtain ⟨ns, en, rfl⟩ := Option.map_eq_some_iff.mp e
    obtain ⟨a, rfl, hq⟩ := blsAt W r l en
    exact ⟨a, ns, rfl, hq, Post.here W (.p (.bl _)) h⟩
  · cases e
theorem foldl_max : ∀ (is : List Int) (i : Int), (is.foldl max i = i ∨ is.foldl max i ∈ is) ∧ i ≤ is.foldl max i ∧ ∀ y ∈ is, y ≤ is.foldl max i
  | [], i => ⟨.inl rfl, Int.le_refl _, fun _ h => by cases h⟩
  | j :: is, i => by
    obtain ⟨h1, h2, h3⟩ := foldl_max is (max i j)
    rw [List.foldl_cons]
    refine ⟨?_, Int.le_trans (Int.le_max_left _ _) h2, fun y hy => ?_⟩
    · rcases h1 with h1 | h1
      · rw [h1]
        rcases Int.le_total i j with z | z
        · right; rw [Int.max_eq_right z]; simp
        · left; exact Int.max_eq_left z
      · right; simp [h1]
    · rcases List.mem_cons.mp hy with rfl | hy
      · exact Int.le_trans (Int.le_max_right _ _) h2
      · exact h3 y hy
theorem foldl_min : ∀ (is : List Int) (i : Int), (is.foldl min i = i ∨ is.foldl min i ∈ is) ∧ is.foldl min i ≤ i ∧ ∀ y ∈ is, is.foldl min i ≤ y
  | [], i => ⟨.inl rfl, Int.le_refl _, fun _ h => by cases h⟩
  | j :: is, i => by
    obtain ⟨h1, h2, h3⟩ := foldl_min is (min i j)
    rw [List.foldl_cons]
    refine ⟨?_, Int.le_trans h2 (Int.min_le_left _ _), fun y hy => ?_⟩
    · rcases h1 with h1 | h1
      · rw [h1]
        rcases Int.le_total i j with z | z
        · left; exact Int.min_eq_left z
        · right; rw [Int.min_eq_right z]; simp
      · right; simp [h1]
    · rcases List.mem_cons.mp hy with rfl | hy
      · exact Int.le_trans h2 (Int.min_le_right _ _)
      · exact h3 y hy
theorem u_max : U1P X G (rMax X.K) (fnK maxP) := by
  intro σ w s H q v Q W r h
  obtain ⟨x, e, h⟩ := fnK_at h
  unfold maxP at e
  split at e
  · rename_i l
    obtain ⟨m, em, rfl⟩ := Option.map_eq_some_iff.mp e
    obtain ⟨ns, en, em⟩ := Option.bind_eq_some_iff.mp em
    obtain ⟨a, rfl, hq⟩ := intsAt W r l en
    cases ns with
    | nil => cases em
    | cons i is =>
      cases em
      refine ⟨a, _, rfl, hq, by simp, fun m hm hy => ?_⟩
      obtain ⟨g1, g2, g3⟩ := foldl_max is i
      have : m = is.foldl max i := by
        apply Int.le_antisymm
        · rcases List.mem_cons.mp hm with rfl | hm
          · exact g2
          · exact g3 m hm
        · rcases g1 with g1 | g1
          · rw [g1]; exact hy _ (by simp)
          · exact hy _ (by simp [g1])
      rw [this]
      exact Post.here W (.p (.int _)) h
  · cases e
theorem u_min : U1P X G (rMin X.K) (fnK minP) := by
  intro σ w s H q v Q W r h
  obtain ⟨x, e, h⟩ := fnK_at h
  unfold minP at e
  split at e
  · rename_i l
    obtain ⟨m, em, rfl⟩ := Option.map_eq_some_iff.mp e
    obtain ⟨ns, en, em⟩ := Option.bind_eq_some_iff.mp em
    obtain ⟨a, rfl, hq⟩ := intsAt W r l en
    cases ns with
    | nil => cases em
    | cons i is =>
      cases em
      refine ⟨a, _, rfl, hq, by simp, fun m hm hy => ?_⟩
      obtain ⟨g1, g2, g3⟩ := foldl_min is i
      have : m = is.foldl min i := by
        apply Int.le_antisymm
        · rcases g1 with g1 | g1
          · rw [g1]; exact hy _ (by simp)
          · exact hy _ (by simp [g1])
        · rcases List.mem_cons.mp hm with rfl | hm
          · exact g2
          · exact g3 m hm
      rw [this]
      exact Post.here W (.p (.int _)) h
  · cases e
theorem de_sum (hc : X.calm = true) (hg : Gl X "sum") (hm : X.mg "sum" = none) (ha : DP X G a fp) (h1 : starEach [a] X.env = (false, eval a X.env) :: starEach [] X.env := by rfl) : DE X G (.Call (.Name "sum" p) [a] [] pos) (bnd fp (fnK sumP)) := de_b1 (cr_sum hc) u_sum hg hm (by decide +kernel) ha (h1 := h1)
theorem de_all (hc : X.calm = true) (hg : Gl X "all") (hm : X.mg "all" = none) (ha : DP X G a fp) (h1 : starEach [a] X.env = (false, eval a X.env) :: starEach [] X.env := by rfl) : DE X G (.Call (.Name "all" p) [a] [] pos) (bnd fp (fnK allP)) := de_b1 (cr_all hc) u_all hg hm (by decide +kernel) ha (h1 := h1)
theorem de_any (hc : X.calm = true) (hg : Gl X "any") (hm : X.mg "any" = none) (ha : DP X G a fp) (h1 : starEach [a] X.env = (false, eval a X.env) :: starEach [] X.env := by rfl) : DE X G (.Call (.Name "any" p) [a] [] pos) (bnd fp (fnK anyP)) := de_b1 (cr_any hc) u_any hg hm (by decide +kernel) ha (h1 := h1)
theorem de_max (hc : X.calm = true) (hg : Gl X "max") (hm : X.mg "max" = none) (ha : DP X G a fp) (h1 : starEach [a] X.env = (false, eval a X.env) :: starEach [] X.env := by rfl) : DE X G (.Call (.Name "max" p) [a] [] pos) (bnd fp (fnK maxP)) := de_b1 (cr_max hc) u_max hg hm (by decide +kernel) ha (h1 := h1)
theorem de_min (hc : X.calm = true) (hg : Gl X "min") (hm : X.mg "min" = none) (ha : DP X G a fp) (h1 : starEach [a] X.env = (false, eval a X.env) :: starEach [] X.env := by rfl) : DE X G (.Call (.Name "min" p) [a] [] pos) (bnd fp (fnK minP)) := de_b1 (cr_min hc) u_min hg hm (by decide +kernel) ha (h1 := h1)
end
end Dz
namespace Dz
open PySem PySem.Spec PyProof.Rows L2
section
variable {X : Cx} {G : Env} {σ σ' : L2.St} {w w1 w' : Wo} {H H1 H' : Hp} {s s1 s' : Sta} {K : PySem.W.Frag} {mg : Str → Option Value} {B : Ba}
variable {a b c e : Expr} {es : List Expr} {f g h : Ev} {pos p2 p apos cpos : Pos} {rest : List Expr} {st : Stmt} {sts sts2 : List Stmt} {gs hs : Ex} {x : Str}
variable {fp : Sta → Res Pk} {fa : Sta → Res (List D)}
/-! ### a slot that is looked at: truth, subscripts, in -/
def truPk (k : Pk) (s : Sta) : Option Bool := match k with
  | .d d => truB d s
  | .lin (.lst xs) => some (!xs.isEmpty)
  | .lin (.dic kvs) => some (!kvs.isEmpty)
  | _ => none
theorem truPk_of {k : Pk} {v : V} {c : Bool} (W : Wd X.K X.mg G.B w σ s H) (h : RP X.K H w k v) (e : truPk k s = some c) : TruV X.K v H c := by
  cases k with
  | d d => exact tru_of W h e
  | lin m =>
    obtain ⟨a, rfl, l⟩ := h
    cases l with
    | lst h t => cases e; exact .inl ⟨_, .of h, by rw [← t.vd.emp (w := w)]; simp⟩
    | dic h t => cases e; exact .inr (.inr ⟨_, h, by rw [← t.vd.emp (w := w)]; simp⟩)
    | dct _ _ => cases e
def truPR (k : Pk) : Sta → Res Bool := fun s => match truPk k s with
  | some b => .ok b s
  | none => .bad
theorem dt_truP (ha : DP X G a fp) (he : ∀ whole, isTrue a X.env whole = (do let v ← whole; standAt a.pos; holding [v] (truthy v)) := by intro _; rfl) : DT X G a (bnd fp truPR) :=
  PTi (pt_truth ha he) fun σ H Q ⟨w, s, W, h⟩ => ⟨w, s, W, h.bind fun d s1 v w1 H1 m1 W1 r1 h1 => by
    unfold truPR at h1
    split at h1
    · rename_i k e
      exact ⟨k, truPk_of W1 r1 e, Post.here (R := RB) W1 rfl h1⟩
    · exact h1.elim⟩
/-- xs[e], xs a name: looked at behind e -/
def ixPk (k : Pk) (e : D) (s : Sta) : Option D := match k with
  | .d d => ixO d e s
  | .lin (.lst xs) => match e with
    | .p (.int i) => (atI xs i).map .p
    | _ => none
  | .lin (.dic kvs) => match e with
    | .p y => (keyP y).bind fun k => (getK kvs k).map .p
    | _ => none
  | .lin (.dct kvs) => match e with
    | .p y => (keysP y).bind fun k => (getK kvs k).map .p
    | _ => none
def ixV (i : Nat) (g : Ev) : Ev := bnd (pk i) fun _ => bnd g fun e => bnd (pk i) fun k s => match ixPk k e s with
  | some x => .ok x s
  | none => .bad
theorem TdL.atI {J : Addr → Prop} {xs : List P} {vs : List V} {i : Int} {d : P} (t : TdL K false H J xs vs) (e : atI xs i = some d) : ∃ v, L2.atI vs i = some v ∧ Td K false H J d v := by
  unfold L2.atI at e ⊢
  rw [t.len] at e
  cases ej : ixN vs.length i with
  | none => rw [ej] at e; cases e
  | some j =>
    rw [ej] at e
    exact t.at e
theorem TdK.get {κ : Type} [DecidableEq κ] {J : Addr → Prop} {xs : List (κ × P)} {vs : List (κ × V)} (t : TdK K false H J xs vs) {k : κ} {d : P} (e : getK xs k = some d) : ∃ v, valV vs k = some v ∧ Td K false H J d v := by
  induction t with
  | nil => cases e
  | @cons k' x xs v vs h1 _ ih =>
    by_cases ek : k' = k
    · have : getK ((k', x) :: xs) k = some x := by simp [getK, List.find?_cons, ek]
      rw [this] at e
      cases e
      exact ⟨v, valV_pos ek, h1⟩
    · have : getK ((k', x) :: xs) k = getK xs k := by simp [getK, List.find?_cons, ek]
      rw [this] at e
      obtain ⟨u, h2, h3⟩ := ih e
      exact ⟨u, by rw [valV_neg (p := (k', v)) ek]; exact h2, h3⟩
theorem ixPk_at {k : Pk} {d x : D} {v u : V} {Q : VK} (W : Wd X.K X.mg G.B w σ s H) (hk : RP X.K H w k v) (he : Vd X.K H w d u) (e : ixPk k d s = some x) (h : Post X G (RD X) σ w H (.ok x s) Q) : rIxD X.K v u H Q := by
  cases k with
  | d d0 =>
    refine u_ix σ w s H d0 d v u Q W hk he ?_
    unfold ixD
    rw [show ixO d0 d s = some x from e]
    exact h
  | lin m =>
    obtain ⟨a, rfl, l⟩ := hk
    cases l with
    | lst h1 t =>
      unfold ixPk at e
      cases he with
      | p te =>
        cases te with
        | int i =>
          obtain ⟨y, ey, rfl⟩ := Option.map_eq_some_iff.mp e
          obtain ⟨z, hz, tz⟩ := t.atI ey
          exact .inl (.inl ⟨a, _, i, z, rfl, rfl, .of h1, hz, Post.here W (.p tz) h⟩)
        | _ => cases e
      | _ => cases e
    | dic h1 t =>
      unfold ixPk at e
      cases he with
      | p te =>
        obtain ⟨k, kk, e2⟩ := Option.bind_eq_some_iff.mp e
        obtain ⟨y, ey, rfl⟩ := Option.map_eq_some_iff.mp e2
        obtain ⟨z, hz, tz⟩ := t.get ey
        cases key_v te kk
        exact .inr ⟨a, z, rfl, by rw [← hz]; exact .k h1, Post.here W (.p tz) h⟩
      | _ => cases e
    | dct h1 t =>
      unfold ixPk at e
      cases he with
      | p te =>
        obtain ⟨k, kk, e2⟩ := Option.bind_eq_some_iff.mp e
        obtain ⟨y, ey, rfl⟩ := Option.map_eq_some_iff.mp e2
        obtain ⟨z, hz, tz⟩ := t.get ey
        obtain ⟨c, rfl, hc⟩ := keysP_at te kk
        exact .inr ⟨a, z, rfl, by rw [← hz]; exact .t h1 hc, Post.here W (.p tz) h⟩
      | _ => cases e
/-- what a slot shows -/
theorem pk_at {i : Nat} {k : Pk} {s2 : Sta} (W : Wd K mg B w σ s H) (e : pk i s = .ok k s2) : s2 = s ∧ ∃ v, σ[i]? = some (some v) ∧ RP K H w k v := by
  unfold pk at e
  split at e
  · rename_i d e1
    cases e
    exact ⟨rfl, W.sl i _ e1⟩
  · rename_i m e1
    cases e
    obtain ⟨a, e2, l, _⟩ := W.sl i _ e1
    exact ⟨rfl, _, e2, a, rfl, l⟩
  · cases e
theorem pk_ex {i : Nat} {c : Str} {fs : List P} (e : pk i s = .ex c fs) : False := by
  unfold pk at e
  split at e <;> cases e
/-- from f, then g -/
theorem PostQ {α β γ δ : Type} {R : Hp → Wo → α → γ → Prop} {R' : Hp → Wo → β → δ → Prop} {f : Sta → Res α} {g : α → Sta → Res β} {Q : δ → Hp → Prop} {Q1 : γ → Hp → Prop} (h : Post X G R' σ w H (Dz.bnd f g s) Q)
    (k : ∀ a s1 b w1 H1, Mono w H w1 H1 → Wd X.K X.mg G.B w1 σ s1 H1 → R H1 w1 a b → Post X G R' σ w1 H1 (g a s1) Q → Q1 b H1) : Post X G R σ w H (f s) Q1 := Post.bind h k
theorem de_ixV {i : Nat} {x : Str} {px : Pos} (hu : X.A.units + 64 < cLine) (hb : DE X G b g) (hs : PlainIx b := by exact fun _ _ => rfl) (hN : X.N[i]? = some x := by rfl) (hv : Vis X.env.scope x := by first | exact Or.inl rfl | exact Or.inr (Or.inl rfl) | exact Or.inr (Or.inr rfl))
    (hd : (x == ("__debug__" : Str)) = false := by decide) (hcd : (x == ("__classdict__" : Str)) = false := by decide) : DE X G (.Subscript (.Name x px) b pos) (ixV i g) :=
  PEi (pe_ix (ix_seq.or (ix_dict hu)) (pe_var (i := i) hN hv hd hcd) hb hs) fun σ H Q ⟨w, s, W, h⟩ => by
    unfold ixV at h
    unfold bnd at h
    cases ep0 : pk i s with
    | bad => rw [ep0] at h; exact h.elim
    | ex c fs => exact (pk_ex ep0).elim
    | ok k0 s0 =>
      obtain ⟨rfl, v, ev, _⟩ := pk_at W ep0
      rw [ep0] at h
      refine ⟨v, ev, w, _, W, PostQ h fun d s1 u w1 H1 m1 W1 r1 h => ?_⟩
      unfold bnd at h
      cases ep : pk i s1 with
      | bad => rw [ep] at h; exact h.elim
      | ex c fs => exact (pk_ex ep).elim
      | ok k s2 =>
        obtain ⟨rfl, v', ev', rk⟩ := pk_at W1 ep
        rw [ev] at ev'
        cases ev'
        rw [ep] at h
        simp only at h
        split at h
        · rename_i x ex
          exact ixPk_at W1 rk r1 ex h
        · exact h.elim
/-- x in xs, xs a name -/
def inPk (d : D) (k : Pk) (s : Sta) : Option Bool := match k with
  | .d e => inB d e s
  | .lin (.lst xs) => match d with
    | .p x => if min (deep x) (deepL xs) ≤ 60 then some (xs.any fun z => eqP z x) else none
    | _ => none
  | .lin (.dic kvs) => match d with
    | .p x => (keyP x).map fun k => (getK kvs k).isSome
    | _ => none
  | .lin (.dct kvs) => match d with
    | .p x => (keysP x).map fun k => (getK kvs k).isSome
    | _ => none
def inPD (neg : Bool) (d : D) (k : Pk) : Ev := fun s => match inPk d k s with
  | some b => .ok (.p (.bl (if neg then !b else b))) s
  | none => .bad
theorem TdK.some {κ : Type} [DecidableEq κ] {J : Addr → Prop} {xs : List (κ × P)} {vs : List (κ × V)} (t : TdK K false H J xs vs) (k : κ) : (valV vs k).isSome = (getK xs k).isSome := by
  have := getK_some (t.vd (w := ⟨[], J⟩)) k
  rw [this]
  unfold getK
  rw [List.find?_map]
  simp [Function.comp_def]
theorem inPk_at {neg cb : Bool} {d : D} {k : Pk} {v u : V} {Q : VK} (W : Wd X.K X.mg G.B w σ s H) (hd : Vd X.K H w d v) (hk : RP X.K H w k u) (e : inPk d k s = some cb) (h : Post X G (RD X) σ w H (.ok (.p (.bl (if neg then !cb else cb))) s) Q) : rInD X.K neg v u H Q := by
  cases k with
  | d d0 =>
    refine u_in neg σ w s H d d0 v u Q W hd hk ?_
    unfold inD
    rw [show inB d d0 s = some cb from e]
    exact h
  | lin m =>
    obtain ⟨a, rfl, l⟩ := hk
    have fin : ∀ {c : Bool}, c = (if neg then !cb else cb) → Q (.bl c) H := fun {c} z => by rw [z]; exact Post.here W (.p (.bl _)) h
    cases hd with
    | p td =>
      cases l with
      | lst h1 t =>
        unfold inPk at e
        simp only at e
        split at e
        · rename_i hz
          cases e
          exact .inr (.inl ⟨w.I, _, _, a, _, rfl, .inl (.of h1), t, td, hz, fin rfl⟩)
        · cases e
      | dic h1 t =>
        obtain ⟨k, kk, rfl⟩ := Option.map_eq_some_iff.mp e
        cases key_v td kk
        exact .inr (.inr ⟨a, _, rfl, .k h1, fin (by rw [t.some])⟩)
      | dct h1 t =>
        obtain ⟨k, kk, rfl⟩ := Option.map_eq_some_iff.mp e
        obtain ⟨c, rfl, hc⟩ := keysP_at td kk
        exact .inr (.inr ⟨a, _, rfl, .t h1 hc, fin (by rw [t.some])⟩)
    | _ => cases l <;> cases e
def inE (neg : Bool) (f : Ev) (fp : Sta → Res Pk) : Ev := bnd f fun d => bnd fp fun k => inPD neg d k
theorem in_post {neg : Bool} {Q : VK} {op : CmpOp} (W : Wd X.K X.mg G.B w σ s H) (h : Post X G (RD X) σ w H (inE neg f fp s) Q) : tOp (rInD X.K neg) (tE X G f) (tP X G fp) σ H Q :=
  ⟨w, s, W, PostQ h fun d s1 v w1 H1 m1 W1 r1 h => ⟨w1, s1, W1, PostQ h fun k s2 u w2 H2 m2 W2 r2 h => by
    unfold inPD at h
    split at h
    · rename_i cb e
      exact inPk_at W2 (Vd.mono m2 r1) r2 e h
    · exact h.elim⟩⟩
theorem de_inP (hu : X.A.units + 64 < cLine) (ha : DE X G a f) (hb : DP X G b fp) (hm : behindInMarks .In b = false := by rfl) : DE X G (.Compare a [.In] [b] pos) (inE false f fp) :=
  PEi (pe_cmpR ((op_inS false).or ((op_inP hu).or (op_inK hu))) ha hb hm) fun σ H Q ⟨w, s, W, h⟩ => in_post (op := .In) W h
theorem de_notInP (hu : X.A.units + 64 < cLine) (ha : DE X G a f) (hb : DP X G b fp) (hm : behindInMarks .NotIn b = false := by rfl) : DE X G (.Compare a [.NotIn] [b] pos) (inE true f fp) :=
  PEi (pe_cmpR ((op_inS true).or ((op_notInP hu).or (op_notInK hu))) ha hb hm) fun σ H Q ⟨w, s, W, h⟩ => in_post (op := .NotIn) W h
theorem dt_inP (hu : X.A.units + 64 < cLine) (ha : DE X G a f) (hb : DP X G b fp) (hm : behindInMarks .In b = false := by rfl) : DT X G (.Compare a [.In] [b] pos) (bnd (inE false f fp) isBl) :=
  PTi (pt_cmpR ((op_inS false).or ((op_inP hu).or (op_inK hu))) ha hb hm) fun σ H Q ⟨w, s, W, h⟩ => in_post (op := .In) W (h.bind (R := RD X) fun d s3 x w3 H3 m3 W3 r3 h3 => blOf W3 r3 h3)
theorem dt_notInP (hu : X.A.units + 64 < cLine) (ha : DE X G a f) (hb : DP X G b fp) (hm : behindInMarks .NotIn b = false := by rfl) : DT X G (.Compare a [.NotIn] [b] pos) (bnd (inE true f fp) isBl) :=
  PTi (pt_cmpR ((op_inS true).or ((op_notInP hu).or (op_notInK hu))) ha hb hm) fun σ H Q ⟨w, s, W, h⟩ => in_post (op := .NotIn) W (h.bind (R := RD X) fun d s3 x w3 H3 m3 W3 r3 h3 => blOf W3 r3 h3)
end
end Dz
namespace Dz
open PySem PySem.Spec PyProof.Rows L2
section
variable {X : Cx} {G : Env} {σ σ' : L2.St} {w w1 w' : Wo} {H H1 H' : Hp} {s s1 s' : Sta} {K : PySem.W.Frag} {mg : Str → Option Value} {B : Ba}
variable {a b c e o : Expr} {es : List Expr} {f g h : Ev} {pos p2 p apos cpos : Pos} {rest : List Expr} {st : Stmt} {sts sts2 : List Stmt} {gs hs : Ex} {x : Str}
variable {fp : Sta → Res Pk} {fa : Sta → Res (List D)}
/-! ### changes -/
theorem Mono.wr {a : Addr} {u : HO} (n : ¬ w.I a) (nt : ∀ xs, H a ≠ some (.tup xs) := by intro _ z; simp_all) : Mono w H w (upd H a u) := ⟨⟨fun b o hb e => ⟨hb, by rw [upd_ne (fun z => n (by rw [← z]; exact hb))]; exact e⟩, fun b xs e => by rw [upd_ne (fun z => nt xs (by rw [← z]; exact e))]; exact e⟩, fun _ _ e => e⟩
/-- what a slot alone knows is changed -/
theorem Wd.wr {i : Nat} {m m' : Lin} {a : Addr} {u : HO} (W : Wd K mg B w σ s H) (e : s.sl[i]? = some (.lin m)) (ea : σ[i]? = some (some (.ref a))) (hm : LOk K (upd H a u) w.I a m') : Wd K mg B w σ ⟨s.sl.set i (.lin m'), s.st⟩ (upd H a u) := by
  obtain ⟨a', e1, l, n1, n2, n3⟩ := W.sl i _ e
  rw [ea] at e1
  cases e1
  have il : i < s.sl.length := (List.getElem?_eq_some_iff.mp e).1
  have nt : ∀ xs, H a ≠ some (.tup xs) := fun xs hb => by
    cases l with
    | lst h _ => rw [h] at hb; cases hb
    | dic h _ => rw [h] at hb; cases hb
    | dct h _ => rw [h] at hb; cases hb
  have mo : Mono w H w (upd H a u) := .wr n2 nt
  have ho : ∀ c, H a ≠ some (.own c) := fun c hb => by
    cases l with
    | lst h _ => rw [h] at hb; cases hb
    | dic h _ => rw [h] at hb; cases hb
    | dct h _ => rw [h] at hb; cases hb
  have th : ∀ b, upd H a u b = none → H b = none := fun b hb => by
    by_cases eb : b = a
    · subst eb; rw [upd_same] at hb; cases hb
    · rw [upd_ne eb] at hb; exact hb
  refine ⟨⟨fun b v hb nb => ?_, W.ext.pre, W.ext.newr, W.ext.imm, W.ext.newi, fun b hb => W.ext.there b (th b hb), fun b xs e => by have e2 := W.ext.tup b xs e; rw [upd_ne (fun z => nt xs (by rw [← z]; exact e2))]; exact e2⟩, ⟨W.snd.nd, fun b hb z => W.snd.rt b hb (th b z), W.snd.ri, fun b hb z => W.snd.it b hb (th b z)⟩, W.sb, ?_, fun j x ej => ?_, ?_, fun p q pq hp hq => ?_⟩
  · rw [upd_ne (fun z => by subst z; rw [n3] at hb; cases hb)]
    exact W.ext.keep b v hb nb
  · have so := W.sto
    show StOk K mg (upd H a u) w s.st
    cases es : s.st with
    | none => trivial
    | some S =>
      rw [es] at so
      refine ⟨so.1, fun n b m e1 e2 => (so.2 n b m e1 e2).mono (fun o eo => ?_) (fun d ed => ?_) mo⟩
      · rw [upd_ne (fun z => by subst z; exact n1 (List.mem_of_getElem? e1))]; exact eo
      · rw [upd_ne (fun z => by subst z; exact ho _ ed)]; exact ed
  · have ej : (s.sl.set i (.lin m'))[j]? = some x := ej
    rw [List.getElem?_set] at ej
    by_cases eq : i = j
    · subst eq
      rw [if_pos rfl, if_pos il] at ej
      cases ej
      exact ⟨a, ea, hm, n1, n2, n3⟩
    · rw [if_neg eq] at ej
      have h := W.sl j x ej
      cases x with
      | un => trivial
      | v d => obtain ⟨v, e1, h1⟩ := h; exact ⟨v, e1, h1.mono mo⟩
      | lin l' =>
        obtain ⟨b, e1, h1, h2, h3, h4⟩ := h
        refine ⟨b, e1, h1.mono (fun o eo => ?_) mo.imm, h2, h3, h4⟩
        rw [upd_ne (fun z => by subst z; exact W.two i j eq (by rw [e]; rfl) (by rw [ej]; rfl) (ea.trans e1.symm))]
        exact eo
  · show (s.sl.set i _).length ≤ _; rw [List.length_set]; exact W.len
  · have other : ∀ p, isLin (s.sl.set i (.lin m'))[p]? = true → isLin s.sl[p]? = true := fun p hp => by
      rw [List.getElem?_set] at hp
      by_cases eq : i = p
      · subst eq; rw [e]; rfl
      · rw [if_neg eq] at hp; exact hp
    exact W.two p q pq (other p hp) (other q hq)
theorem nodup_at {α : Type} : ∀ {l : List α} {i j : Nat} {a : α}, l.Nodup → l[i]? = some a → l[j]? = some a → i = j
  | [], _, _, _, _, h, _ => by simp at h
  | x :: l, 0, 0, _, _, _, _ => rfl
  | x :: l, 0, j + 1, a, nd, h, h' => by
    simp at h h'
    subst h
    exact absurd (List.mem_of_getElem? h') (List.nodup_cons.mp nd).1
  | x :: l, i + 1, 0, a, nd, h, h' => by
    simp at h h'
    subst h'
    exact absurd (List.mem_of_getElem? h) (List.nodup_cons.mp nd).1
  | x :: l, i + 1, j + 1, a, nd, h, h' => by
    simp at h h'
    rw [nodup_at (List.nodup_cons.mp nd).2 h h']
/-- an object of the store is changed -/
theorem Wd.wrS {n : Nat} {a : Addr} {S : List MO} {m m' : MO} {u : HO} (W : Wd K mg B w σ s H) (es : s.st = some S) (en : w.ρ[n]? = some a) (em : S[n]? = some m) (hm : MOk K mg (upd H a u) w a m') (hn : ∀ c, H a ≠ some (.own c)) (nt : ∀ xs, H a ≠ some (.tup xs) := by intro _ z; simp_all) :
    Wd K mg B w σ ⟨s.sl, some (S.set n m')⟩ (upd H a u) ∧ Mono w H w (upd H a u) := by
  have am : a ∈ w.ρ := List.mem_of_getElem? en
  have n2 : ¬ w.I a := W.snd.ri a am
  have mo : Mono w H w (upd H a u) := .wr n2 nt
  have th : ∀ b, upd H a u b = none → H b = none := fun b hb => by
    by_cases eb : b = a
    · subst eb; rw [upd_same] at hb; cases hb
    · rw [upd_ne eb] at hb; exact hb
  have so := W.sto
  rw [es] at so
  refine ⟨⟨⟨fun b v hb nb => ?_, W.ext.pre, W.ext.newr, W.ext.imm, W.ext.newi, fun b hb => W.ext.there b (th b hb), fun b xs e => by have e2 := W.ext.tup b xs e; rw [upd_ne (fun z => nt xs (by rw [← z]; exact e2))]; exact e2⟩, ⟨W.snd.nd, fun b hb z => W.snd.rt b hb (th b z), W.snd.ri, fun b hb z => W.snd.it b hb (th b z)⟩, W.sb, ?_, fun j x ej => ?_, W.len, W.two⟩, mo⟩
  · rw [upd_ne (fun z => by
      subst z
      rcases W.ext.newr b am with h | h
      · exact nb h
      · rw [h] at hb; cases hb)]
    exact W.ext.keep b v hb nb
  · refine ⟨by rw [List.length_set]; exact so.1, fun k b mk e1 e2 => ?_⟩
    by_cases ek : n = k
    · subst ek
      rw [en] at e1
      cases e1
      rw [List.getElem?_set, if_pos rfl] at e2
      split at e2
      · cases e2; exact hm
      · cases e2
    · rw [List.getElem?_set, if_neg ek] at e2
      refine (so.2 k b mk e1 e2).mono (fun o eo => ?_) (fun d ed => ?_) mo
      · rw [upd_ne (fun z => ?_)]
        · exact eo
        · subst z
          have l1 := (List.getElem?_eq_some_iff.mp en)
          have l2 := (List.getElem?_eq_some_iff.mp e1)
          exact ek (nodup_at W.snd.nd en e1)
      · rw [upd_ne (fun z => by subst z; exact hn _ ed)]; exact ed
  · have h := W.sl j x ej
    cases x with
    | un => trivial
    | v d => obtain ⟨v, e1, h1⟩ := h; exact ⟨v, e1, h1.mono mo⟩
    | lin l' =>
      obtain ⟨b, e1, h1, h2, h3, h4⟩ := h
      refine ⟨b, e1, h1.mono (fun o eo => ?_) mo.imm, h2, h3, h4⟩
      rw [upd_ne (fun z => by subst z; exact h2 am)]
      exact eo
theorem MOk.noOwn {a : Addr} {m : MO} (h : MOk K mg H w a m) : ∀ c, H a ≠ some (.own c) := fun c z => by
  cases h with
  | lst h _ => rw [h] at z; cases z
  | tup h _ => rw [h] at z; cases z
  | dic h _ => rw [h] at z; cases z
  | dct h _ => rw [h] at z; cases z
  | ins _ h _ _ => rw [h] at z; cases z
/-- xs.append(d) by the place xs: a slot of its own, or the store -/
def appAt (k : Pk) (i : Nat) (d : D) : Sta → Option Sta := fun s => match k with
  | .lin (.lst xs) => match d with
    | .p x => if xs.length < sizeLine then some ⟨s.sl.set i (.lin (.lst (xs ++ [x]))), s.st⟩ else none
    | _ => none
  | .d (.loc n) => match s.st with
    | some S => match S[n]? with
      | some (.lst ds) => if ds.length < sizeLine then some ⟨s.sl, some (S.set n (.lst (ds ++ [d])))⟩ else none
      | _ => none
    | none => none
  | _ => none
theorem TdL.snoc {J : Addr → Prop} {xs : List P} {vs : List V} {x : P} {v : V} (t : TdL K false H J xs vs) (h : Td K false H J x v) : TdL K false H J (xs ++ [x]) (vs ++ [v]) := t.app (.cons h .nil)
theorem VdL.snoc {xs : List D} {vs : List V} {x : D} {v : V} (t : VdL K H w xs vs) (h : Vd K H w x v) : VdL K H w (xs ++ [x]) (vs ++ [v]) := t.app (.cons h .nil)
/-- an append at an address -/
theorem app_st {n : Nat} {d : D} {v u : V} {Q : VK} {s2 : Sta} {i : Nat} (W : Wd X.K X.mg G.B w σ s H) (hv : Vd X.K H w (.loc n) v) (hd : Vd X.K H w d u) (e : appAt (.d (.loc n)) i d s = some s2) (h : ∀ H', Mono w H w H' → Wd X.K X.mg G.B w σ s2 H' → Q .non H') : rAppend v [u] H Q := by
  unfold appAt at e
  simp only at e
  cases hv with
  | @loc _ a hn =>
    have so := W.sto
    split at e
    · rename_i S es
      split at e
      · rename_i ds em
        split at e
        · rename_i hz
          cases e
          rw [es] at so
          have mk := so.2 n a _ hn em
          have hno := mk.noOwn
          cases mk with
          | @lst _ vs h1 t =>
            have n2 : ¬ w.I a := W.snd.ri a (List.mem_of_getElem? hn)
            obtain ⟨W', mo⟩ := W.wrS (u := .lst (vs ++ [u])) (m' := .lst (ds ++ [d])) es hn em (.lst upd_same ((t.mono (.wr n2)).snoc (hd.mono (.wr n2)))) hno
            exact ⟨a, vs, u, rfl, rfl, h1, by rw [← t.len]; exact hz, h _ mo W'⟩
        · cases e
      · cases e
    · cases e
theorem app_sl {i : Nat} {m : Lin} {d : D} {v u : V} {Q : VK} {s2 : Sta} (W : Wd X.K X.mg G.B w σ s H) (em : s.sl[i]? = some (.lin m)) (ev : σ[i]? = some (some v)) (hd : Vd X.K H w d u) (e : appAt (.lin m) i d s = some s2) (h : ∀ H', Mono w H w H' → Wd X.K X.mg G.B w σ s2 H' → Q .non H') : rAppend v [u] H Q := by
  obtain ⟨a, e1, l, n1, n2, n3⟩ := W.sl i _ em
  rw [ev] at e1
  cases e1
  unfold appAt at e
  cases l with
  | @lst _ vs h1 t =>
    simp only at e
    split at e
    · rename_i x
      split at e
      · rename_i hz
        cases e
        cases hd with
        | p td =>
          have mo : Mono w H w (upd H a (.lst (vs ++ [u]))) := .wr n2
          exact ⟨a, _, u, rfl, rfl, h1, by rw [← t.len]; exact hz, h _ mo (W.wr em ev (.lst upd_same ((t.mono mo.imm).snoc (td.mono mo.imm))))⟩
      · cases e
    · cases e
  | dic _ _ => cases e
  | dct _ _ => cases e
/-- is it a list -/
theorem tyL_at {k : Pk} {v : V} (W : Wd X.K X.mg G.B w σ s H) (h : RP X.K H w k v) (l : isLst k s = true) (ds : List D) (e : seqPk k s = some ds) : tyV X.K "list" v H := by
  obtain ⟨a, vs, rfl, hq, _⟩ := lst_at' W h e l
  exact .inl ⟨rfl, vs, hq⟩
/-- a name's list is there, then e, then the append -/
def appV (i : Nat) (g : Ev) : Ex := bndS (pk i) fun k s => if isLst k s = true ∧ (seqPk k s).isSome = true then bndS g (fun d => bndS (pk i) fun k' s => match appAt k' i d s with
  | some s' => .nx s'
  | none => .bad) s else .bad
theorem ds_appV {i : Nat} {x : Str} {px : Pos} (hb : DE X G e g) (hN : X.N[i]? = some x := by rfl) (hv : Vis X.env.scope x := by first | exact Or.inl rfl | exact Or.inr (Or.inl rfl) | exact Or.inr (Or.inr rfl))
    (hd : (x == ("__debug__" : Str)) = false := by decide) (hcd : (x == ("__classdict__" : Str)) = false := by decide)
    (hbase : attributeBase (.Name x px) "append" X.env (eval (.Name x px) X.env) = eval (.Name x px) X.env := by rfl)
    (hfew : ((backTo cpos (starEach [e] X.env)).all (fun x => !x.1) && (backToKw cpos (keywordEach [] X.env)).all (fun x => x.1.isSome) && decide ([e].length + ([] : List Keyword).length + (if ([] : List Keyword).isEmpty then 0 else 1) < 30)) = true := by rfl)
    (hline : (apos.endLine == cpos.line) = true := by rfl) (h1 : starEach [e] X.env = (false, eval e X.env) :: starEach [] X.env := by rfl) (hplain : (backTo cpos (starEach [] X.env)).any (·.1) = false := by rfl)
    (hs : swapsWith (.Call (.Attribute (.Name x px) "append" apos) [e] [] cpos) none pos.line X.env = pure false := by rfl) : DS X G (.Expr (.Call (.Attribute (.Name x px) "append" apos) [e] [] cpos) pos) (appV i g) :=
  PSi (ps_expr (pe_bm PySem.F.plainAttrs_list PySem.F.slot_list_append PySem.F.type_list_append mt_append (pe_var (i := i) hN hv hd hcd) (pa_cons hb pa_nil h1) hbase hfew hline h1 hplain) hs) fun D σ H ⟨w, s, W, h⟩ => by
    unfold appV at h
    unfold bndS at h
    cases ep : pk i s with
    | bad => rw [ep] at h; exact h.elim
    | ex c fs => exact (pk_ex ep).elim
    | ok k s0 =>
      obtain ⟨rfl, v, ev, rk⟩ := pk_at W ep
      rw [ep] at h
      simp only at h
      split at h
      · rename_i hl
        obtain ⟨ds, eds⟩ := Option.isSome_iff_exists.mp hl.2
        refine ⟨v, ev, tyL_at W rk hl.1 ds eds, w, _, W, PostS.bind h fun d s1 u w1 H1 m1 W1 r1 h => ?_⟩
        unfold bndS at h
        cases ep1 : pk i s1 with
        | bad => rw [ep1] at h; exact h.elim
        | ex c fs => exact (pk_ex ep1).elim
        | ok k1 s2 =>
          obtain ⟨rfl, v1, ev1, rk1⟩ := pk_at W1 ep1
          rw [ev] at ev1
          cases ev1
          rw [ep1] at h
          simp only at h
          split at h
          · rename_i s3 ea
            have fin : ∀ H', Mono w1 H1 w1 H' → Wd X.K X.mg G.B w1 σ s3 H' → D.nx σ H' := fun H' mo W' => h σ w1 H' mo W'
            cases k1 with
            | d y =>
              cases y with
              | loc n => exact app_st (Q := fun _ H' => D.nx σ H') W1 rk1 r1 ea fin
              | _ => cases ea
            | lin m =>
              have em : s2.sl[i]? = some (.lin m) := by
                unfold pk at ep1
                split at ep1
                · cases ep1
                · rename_i m' e1; cases ep1; exact e1
                · cases ep1
              exact app_sl (Q := fun _ H' => D.nx σ H') W1 em ev r1 ea fin
          · exact h.elim
      · exact h.elim
end
end Dz
namespace Dz
open PySem PySem.Spec PyProof.Rows L2
section
variable {X : Cx} {G : Env} {σ σ' : L2.St} {w w1 w' : Wo} {H H1 H' : Hp} {s s1 s' : Sta} {K : PySem.W.Frag} {mg : Str → Option Value} {B : Ba}
variable {a b c e o elt tg iter : Expr} {es ifs : List Expr} {f g h fe : Ev} {pos p2 p apos cpos spos : Pos} {rest : List Expr} {st : Stmt} {sts sts2 : List Stmt} {gs hs : Ex} {x : Str}
/-! ### list comprehensions -/
/-- the slots within: the comprehension's own are empty, and what only the def knows is not to be seen -/
def inSl (own : List Nat) (sl : List Sl) : List Sl := (List.range sl.length).map fun i => if i ∈ own then .un else match sl[i]? with
  | some (.v d) => .v d
  | _ => .un
theorem inSl_get {own : List Nat} {sl : List Sl} {i : Nat} {y : Sl} (e : (inSl own sl)[i]? = some y) : y = .un ∨ ∃ d, y = .v d ∧ i ∉ own ∧ sl[i]? = some (.v d) := by
  unfold inSl at e
  rw [List.getElem?_map] at e
  obtain ⟨j, ej, e⟩ := Option.map_eq_some_iff.mp e
  rw [List.getElem?_range] at ej
  · cases ej
    split at e
    · exact .inl e.symm
    · rename_i ni
      split at e
      · rename_i d ed; exact .inr ⟨d, e.symm, ni, ed⟩
      · exact .inl e.symm
  · by_cases h : i < sl.length
    · exact h
    · rw [List.getElem?_eq_none (by simpa using h)] at ej; cases ej
/-- one round after the other: what was made so far, and the store -/
def lcGo (sl : List Sl) (t : Tg) (tt : Sta → Res Bool) (fe : Ev) : List D → List P → Option (List MO) → Option (List P × Option (List MO))
  | [], acc, st => some (acc, st)
  | d :: ds, acc, st => match t d ⟨sl, st⟩ with
    | some s1 => match tt s1 with
      | .ok true s2 => match fe s2 with
        | .ok (.p x) s3 => if acc.length < sizeLine then lcGo sl t tt fe ds (acc ++ [x]) s3.st else none
        | _ => none
      | .ok false s2 => lcGo sl t tt fe ds acc s2.st
      | _ => none
    | none => none
def lcF (fi : Sta → Res (List D)) (own : List Nat) (t : Tg) (tt : Sta → Res Bool) (fe : Ev) : Sta → Res Lin := bnd fi fun ds s => match lcGo (inSl own s.sl) t tt fe ds [] s.st with
  | some (xs, st) => .ok (.lst xs) ⟨s.sl, st⟩
  | none => .bad
def G0 (w : Wo) (H : Hp) : Env := ⟨⟨w, H⟩, E0⟩
def yesT : Sta → Res Bool := fun s => .ok true s
def DTs (X : Cx) (G : Env) (ifs : List Expr) (t : Sta → Res Bool) : Prop := PTs X ifs (tT X G t)
theorem dts_nil : DTs X G [] yesT := ⟨fun pins s σ H Q I ⟨w, s0, W, h⟩ => pts_nil.run pins s σ H Q I (Post.here (R := RB) W rfl h)⟩
theorem dts_one {ft : Sta → Res Bool} (h : DT X G c ft) : DTs X G [c] ft := pts_one h
/-- the state at a round's beginning -/
theorem in_start {own : List Nat} {sl : List Sl} {stt : Option (List MO)} (sn : Sound w H) (so : StOk K mg H w stt) (hl : sl.length ≤ σ.length)
    (hsl : ∀ (i : Nat) (d : D), sl[i]? = some (.v d) → ∃ v, σ[i]? = some (some v) ∧ Vd K H w d v) : Wd K mg ⟨w, H⟩ w (wipe σ own) ⟨inSl own sl, stt⟩ H where
  ext := .refl
  snd := sn
  sb := sn
  sto := so
  sl := fun i y e => by
    rcases inSl_get e with rfl | ⟨d, rfl, ni, ed⟩
    · trivial
    · obtain ⟨v, ev, hv⟩ := hsl i d ed
      refine ⟨v, ?_, hv⟩
      rw [wipe_out ni]
      exact ev
  len := by
    show (inSl own sl).length ≤ (wipe σ own).length
    rw [wipe_length]
    unfold inSl
    simpa using hl
  two := fun i j _ hi _ => by
    have hi : isLin (inSl own sl)[i]? = true := hi
    cases e : (inSl own sl)[i]? with
    | none => rw [e] at hi; cases hi
    | some y => rcases inSl_get e with rfl | ⟨d, rfl, _, _⟩ <;> rw [e] at hi <;> cases hi
/-- a target that stores only the comprehension's own names -/
def RawG (X : Cx) (own : List Nat) (gg : TG) (t : Tg) : Prop := ∀ (B : Ba) w s d v σ H Q s', Wd X.K X.mg B w σ s H → Vd X.K H w d v → t d s = some s' → (∀ σ', wipe σ' own = wipe σ own → Wd X.K X.mg B w σ' s' H → Q σ' H) → gg v σ H Q
theorem wipe_set {v : Option V} : ∀ {own : List Nat} {i : Nat} {σ : L2.St}, i ∈ own → wipe (σ.set i v) own = wipe σ own := fun {own i σ} h => by
  apply List.ext_getElem?
  intro j
  by_cases hj : j ∈ own
  · have e1 : ∀ τ : L2.St, τ.length = σ.length → (wipe τ own)[j]? = if j < σ.length then some none else none := fun τ ht => by
      cases e : (wipe τ own)[j]? with
      | none =>
        have : τ.length ≤ j := by rw [← wipe_length τ own]; exact List.getElem?_eq_none_iff.mp e
        rw [if_neg (by omega)]
      | some o =>
        have hl : j < τ.length := by rw [← wipe_length τ own]; exact (List.getElem?_eq_some_iff.mp e).1
        rw [if_pos (by omega)]
        cases o with
        | none => rfl
        | some x => exact absurd hj (wipe_some e).2
    rw [e1 σ rfl, e1 (σ.set i v) (by simp)]
  · rw [wipe_out hj, wipe_out hj, List.getElem?_set, if_neg (fun z => hj (by rw [← z]; exact h))]
theorem wipe_in {own : List Nat} {j : Nat} (hj : j ∈ own) (τ : L2.St) : (wipe τ own)[j]? = if j < τ.length then some none else none := by
  cases e : (wipe τ own)[j]? with
  | none =>
    have : τ.length ≤ j := by rw [← wipe_length τ own]; exact List.getElem?_eq_none_iff.mp e
    rw [if_neg (by omega)]
  | some o =>
    have hl : j < τ.length := by rw [← wipe_length τ own]; exact (List.getElem?_eq_some_iff.mp e).1
    rw [if_pos (by omega)]
    cases o with
    | none => rfl
    | some x => exact absurd hj (wipe_some e).2
theorem wipe_wipe {own : List Nat} {σ : L2.St} : wipe (wipe σ own) own = wipe σ own := by
  apply List.ext_getElem?
  intro j
  by_cases hj : j ∈ own
  · rw [wipe_in hj, wipe_in hj, wipe_length]
  · rw [wipe_out hj]
theorem raw_name {own : List Nat} {i : Nat} (h : i ∈ own) : RawG X own (gName i) (nameG i) := fun B w s d v σ H Q s' W hv e k => by
  cases e
  exact k _ (wipe_set h) (W.setv hv)
/-- names in a row -/
def namesG : List Nat → Tgs
  | [] => nilG
  | i :: is => consG (nameG i) (namesG is)
def namesV : List Nat → TGs
  | [] => gNil
  | i :: is => gCons (gName i) (namesV is)
theorem raw_names {own : List Nat} : ∀ {is : List Nat}, (∀ i ∈ is, i ∈ own) → ∀ {B : Ba} {w : Wo} {s s' : Sta} {ds : List D} {vs : List V} {σ : L2.St} {H : Hp} {Q : L2.St → Hp → Prop}, Wd X.K X.mg B w σ s H → VdL X.K H w ds vs → namesG is ds s = some s' →
    (∀ σ', wipe σ' own = wipe σ own → Wd X.K X.mg B w σ' s' H → Q σ' H) → namesV is vs σ H Q
  | [], _, B, w, s, s', ds, vs, σ, H, Q, W, t, e, k => by
    cases t with
    | nil => cases e; exact ⟨rfl, k σ rfl W⟩
    | cons _ _ => cases e
  | i :: is, hi, B, w, s, s', ds, vs, σ, H, Q, W, t, e, k => by
    cases t with
    | nil => cases e
    | @cons d ds v vs a t =>
      refine ⟨v, vs, rfl, ?_⟩
      unfold namesG consG nameG at e
      simp only at e
      refine raw_names (fun j hj => hi j (by simp [hj])) (W.setv a) t e fun σ' hw W' => k σ' ?_ W'
      rw [hw, wipe_set (hi i (by simp))]
theorem raw_tup {own is : List Nat} (h : ∀ i ∈ is, i ∈ own) : RawG X own (gTup X.K is.length (namesV is)) (tupG is.length (namesG is)) := fun B w s d v σ H Q s' W hv e k => by
  unfold tupG at e
  split at e
  · rename_i ds ed
    split at e
    · rename_i hl
      obtain ⟨a, vs, rfl, hq, tl⟩ := tup_at' W hv ed
      exact ⟨a, vs, rfl, hq, by rw [← tl.len]; exact hl, raw_names h W tl e k⟩
    · cases e
  · cases e
theorem Ext.updF {p : Addr} {u : HO} (x : Ext w H w' H') (np : H p = none) : Ext w H w' (upd H' p u) :=
  ⟨fun a o e n => by rw [upd_ne (fun z => by subst z; rw [e] at np; cases np)]; exact x.keep a o e n, x.pre, x.newr, x.imm, x.newi, fun a h => by
    by_cases e : a = p
    · subst e; exact np
    · rw [upd_ne e] at h; exact x.there a h, fun a xs e => by rw [upd_ne (fun z => by subst z; rw [e] at np; cases np)]; exact x.tup a xs e⟩
theorem Sound.updF {p : Addr} {u : HO} (h : Sound w H) : Sound w (upd H p u) :=
  ⟨h.nd, fun a ha z => by
    by_cases e : a = p
    · subst e; rw [upd_same] at z; cases z
    · rw [upd_ne e] at z; exact h.rt a ha z, h.ri, fun a ha z => by
    by_cases e : a = p
    · subst e; rw [upd_same] at z; cases z
    · rw [upd_ne e] at z; exact h.it a ha z⟩
theorem StOk.updF {p : Addr} {u : HO} {vs : List V} {S : Option (List MO)} (h : StOk K mg H w S) (e : H p = some (.lst vs)) (n1 : p ∉ w.ρ) (n2 : ¬ w.I p) : StOk K mg (upd H p u) w S := by
  cases S with
  | none => trivial
  | some S =>
    refine ⟨h.1, fun n b m e1 e2 => (h.2 n b m e1 e2).mono (fun o eo => ?_) (fun d ed => ?_) (.wr n2)⟩
    · rw [upd_ne (fun z => by subst z; exact n1 (List.mem_of_getElem? e1))]; exact eo
    · rw [upd_ne (fun z => by subst z; rw [e] at ed; cases ed)]; exact ed
/-- the readings of a round: at any entry -/
def tT0 (X : Cx) (f : Sta → Res Bool) : TT := fun σ H Q => ∃ w0 H0, tT X (G0 w0 H0) f σ H Q
def tE0 (X : Cx) (f : Ev) : TE := fun σ H Q => ∃ w0 H0, tE X (G0 w0 H0) f σ H Q
theorem lc_read {own : List Nat} {fi : Sta → Res (List D)} {t : Tg} {tt : Sta → Res Bool} {gg : TG} (hr : RawG X own gg t) {Q : VK} (h0 : tF X G (lcF fi own t tt fe) σ H Q) : tLc (tI X G fi) gg (tT0 X tt) (tE0 X fe) own σ H Q := by
  obtain ⟨w, s, W, h⟩ := h0
  refine ⟨w, s, W, ?_⟩
  unfold lcF bnd at h
  cases ef : fi s with
  | bad => rw [ef] at h; exact h.elim
  | ex c fs => rw [ef] at h; exact h
  | ok ds s' =>
    rw [ef] at h
    simp only at h
    intro w1 H1 J m1 W1 wk D nD
    have h := PostF.at m1 h
    cases el : lcGo (inSl own s'.sl) t tt fe ds [] s'.st with
    | none => rw [el] at h; exact h.elim
    | some r =>
      obtain ⟨xs, stE⟩ := r
      rw [el] at h
      obtain ⟨Gs, Y, wlk, hG, hY⟩ := wk
      have b0 := W1.bare (o := .lst []) nD
      have x0 : Ext w1 H1 w1 (upd H1 D (.lst [])) := Ext.refl.updF nD
      refine lc_it wlk (fun i H => ∃ wi acc vs st, Ext w1 H1 wi H ∧ Sound wi H ∧ StOk X.K X.mg H wi st ∧ H D = some (.lst vs) ∧ TdL X.K false H wi.I acc vs ∧ D ∉ wi.ρ ∧ ¬ wi.I D ∧ lcGo (inSl own s'.sl) t tt fe (ds.drop i) acc st = some (xs, stE))
        ⟨w1, [], [], s'.st, x0, b0.2.1.snd, b0.2.1.sto, upd_same, .nil, b0.2.2.1, b0.2.2.2.1, by rw [List.drop_zero]; exact el⟩ (fun i H _ ⟨wi, _, _, _, x, _⟩ => hG wi H (x.mono W1.snd)) ?_ ?_
      · rintro i x H2 H3 hi ⟨wi, acc, vs, st, xi, sn, so, hD, tl, nr, ni, go⟩ y
        have mi : Mono w1 H1 wi H2 := xi.mono W1.snd
        have Wi : Wd X.K X.mg ⟨wi, H2⟩ wi (wipe σ own) ⟨inSl own s'.sl, st⟩ H2 := in_start sn so W1.len fun j d ej => by
          obtain ⟨v, ev, hv⟩ := W1.sl j _ ej
          exact ⟨v, ev, hv.mono mi⟩
        obtain ⟨w2, d, m2, W2, ed, vd⟩ := yield_at (G := G0 wi H2) (J := J) (Y := Y) Wi (hY i H2 x H3 wi hi mi sn y)
        have ed' : ds.drop i = d :: ds.drop (i + 1) := by
          rw [List.drop_eq_getElem_cons hi]
          rw [List.getElem?_eq_getElem hi] at ed
          rw [Option.some.inj ed]
        rw [ed', lcGo] at go
        cases et : t d ⟨inSl own s'.sl, st⟩ with
        | none => simp only [et] at go; cases go
        | some s1 =>
          simp only [et] at go
          refine hr _ _ _ _ _ _ _ _ _ W2 vd et fun σ3 hw3 W3 => ⟨hw3.trans wipe_wipe, wi, H2, w2, s1, W3, ?_⟩
          cases ett : tt s1 with
          | bad => simp only [ett] at go; cases go
          | ex c fs => simp only [ett] at go; cases go
          | ok k s2 =>
            simp only [ett] at go
            intro k' w4 H4 m4 W4 rk
            cases (show k = k' from rk)
            cases k with
            | false =>
              simp only at go
              rw [if_neg Bool.false_ne_true]
              have x4 : Ext wi H2 w4 H4 := W4.ext
              refine ⟨w4, acc, vs, s2.st, xi.trans x4, W4.snd, W4.sto, x4.keep _ _ hD nr, tl.mono (x4.mono sn).imm, fun z => ?_, fun z => ?_, go⟩
              · rcases x4.newr _ z with z | z
                · exact nr z
                · rw [hD] at z; cases z
              · rcases x4.newi _ z with z | z
                · exact ni z
                · rw [hD] at z; cases z
            | true =>
              simp only at go
              rw [if_pos rfl]
              refine ⟨wi, H2, w4, s2, W4, ?_⟩
              cases ee : fe s2 with
              | bad => rw [ee] at go; cases go
              | ex c fs => rw [ee] at go; cases go
              | ok y s3 =>
                rw [ee] at go
                cases y with
                | p yp =>
                  simp only at go
                  split at go
                  · rename_i hz
                    intro v w5 H5 m5 W5 rv
                    have x5 : Ext wi H2 w5 H5 := W5.ext
                    have hD5 : H5 D = some (.lst vs) := x5.keep _ _ hD nr
                    have nr5 : D ∉ w5.ρ := fun z => by
                      rcases x5.newr _ z with z | z
                      · exact nr z
                      · rw [hD] at z; cases z
                    have ni5 : ¬ w5.I D := fun z => by
                      rcases x5.newi _ z with z | z
                      · exact ni z
                      · rw [hD] at z; cases z
                    have t5 : TdL X.K false H5 w5.I acc vs := tl.mono (x5.mono sn).imm
                    have mo : Mono w5 H5 w5 (upd H5 D (.lst (vs ++ [v]))) := .wr ni5
                    cases (show Vd X.K H5 w5 (.p yp) v from rv) with
                    | p ty =>
                      exact ⟨vs, hD5, by rw [← tl.len]; exact hz, w5, acc ++ [yp], vs ++ [v], s3.st, (xi.trans x5).updF nD, W5.snd.updF, W5.sto.updF hD5 nr5 ni5, upd_same, (t5.mono mo.imm).snoc (ty.mono mo.imm), nr5, ni5, go⟩
                  · cases go
                | _ => cases go
      · rintro H2 ⟨wi, acc, vs, st, xi, sn, so, hD, tl, nr, ni, go⟩
        rw [List.drop_length, lcGo] at go
        cases go
        exact h D wi H2 (xi.mono W1.snd) (W1.step xi sn so) (.lst hD tl) nr ni (W1.ext.there D nD) fun j hj z => by
          obtain ⟨a, _, e1, h1, _⟩ := W1.linAddr hj
          rw [e1] at z
          cases z
          exact h1.there nD
section
variable {scope : Scope} {own : List (Str × Nat)} {fi : Sta → Res (List D)} {t : Tg} {tt : Sta → Res Bool} {gg : TG}
theorem df_lc (hc : X.calm = true) (hN : X.N.Nodup) (hi : DI X G tg iter fi) (ok : BlkOk X.N X.env.scope scope own)
    (hg : ∀ (s : Shared) (H : Hp) (C : Addr) (cl : List (Str × Addr)) (fp : List Addr), PG (X.blk s H scope (compEnvC scope cl C X.env) fp) tg gg) (hr : RawG X (own.map (·.2)) gg t)
    (ht : ∀ (s : Shared) (H : Hp) (C : Addr) (cl : List (Str × Addr)) (fp : List Addr) (G' : Env), G'.E = E0 → DTs (X.blk s H scope (compEnvC scope cl C X.env) fp) G' ifs tt)
    (he : ∀ (s : Shared) (H : Hp) (C : Addr) (cl : List (Str × Addr)) (fp : List Addr) (G' : Env), G'.E = E0 → DE (X.blk s H scope (compEnvC scope cl C X.env) fp) G' elt fe)
    (hs : ∀ x, foldedSetIterable iter X.env x = pure x := by intro _; rfl) : DF X G (.ListComp elt [⟨tg, iter, ifs, 0⟩] scope pos) (lcF fi (own.map (·.2)) t tt fe) :=
  PEi (pe_lc (g := gg) (tt := tT0 X tt) (te := tE0 X fe) hc hN hi ok hg (fun s H C cl fp => ⟨fun pins s1 σ1 H1 Q I ⟨w0, H0, q⟩ => (ht s H C cl fp (G0 w0 H0) rfl).run pins s1 σ1 H1 Q I q⟩) (fun s H C cl fp => ⟨fun pins s1 σ1 H1 Q I ⟨w0, H0, q⟩ => (he s H C cl fp (G0 w0 H0) rfl).run pins s1 σ1 H1 Q I q⟩) hs) fun σ H Q h => lc_read hr h
/-- y = [..]: y is known from then on -/
theorem ds_setLc {i : Nat} {y : Str} {py : Pos} (hc : X.calm = true) (hN : X.N.Nodup) (hy : X.N[i]? = some y) (hyl : X.env.scope.names.lookup y = some .local)
    (hsw : swapsWith (.ListComp elt [⟨tg, iter, ifs, 0⟩] scope pos) (some (.Name y py)) spos.line X.env = pure true) (hi : DI X G tg iter fi) (ok : BlkOk X.N X.env.scope scope own)
    (hg : ∀ (s : Shared) (H : Hp) (C : Addr) (cl : List (Str × Addr)) (fp : List Addr), PG (X.blk s H scope (compEnvC scope cl C X.env) fp) tg gg) (hr : RawG X (own.map (·.2)) gg t)
    (ht : ∀ (s : Shared) (H : Hp) (C : Addr) (cl : List (Str × Addr)) (fp : List Addr) (G' : Env), G'.E = E0 → DTs (X.blk s H scope (compEnvC scope cl C X.env) fp) G' ifs tt)
    (he : ∀ (s : Shared) (H : Hp) (C : Addr) (cl : List (Str × Addr)) (fp : List Addr) (G' : Env), G'.E = E0 → DE (X.blk s H scope (compEnvC scope cl C X.env) fp) G' elt fe)
    (hs : ∀ x, foldedSetIterable iter X.env x = pure x := by intro _; rfl) : DS X G (.Assign [.Name y py] (.ListComp elt [⟨tg, iter, ifs, 0⟩] scope pos) spos) (bndS (lcF fi (own.map (·.2)) t tt fe) (setL i)) :=
  PSi (ps_setLc (g := gg) (tt := tT0 X tt) (te := tE0 X fe) hc hN hy hyl hsw hi ok hg (fun s H C cl fp => ⟨fun pins s1 σ1 H1 Q I ⟨w0, H0, q⟩ => (ht s H C cl fp (G0 w0 H0) rfl).run pins s1 σ1 H1 Q I q⟩) (fun s H C cl fp => ⟨fun pins s1 σ1 H1 Q I ⟨w0, H0, q⟩ => (he s H C cl fp (G0 w0 H0) rfl).run pins s1 σ1 H1 Q I q⟩) hs)
    fun D σ H ⟨w, s, W, h⟩ => lc_read hr (tF_bind W h fun m s1 a w1 H1 mo W1 l n1 n2 n3 n4 h1 => h1 _ w1 H1 .refl (W1.setl l n1 n2 n3 n4))
end
end
end Dz
namespace Dz
open PySem PySem.Spec PyProof.Rows L2
section
variable {X : Cx} {G : Env} {σ σ' : L2.St} {w w1 w' : Wo} {H H1 H' : Hp} {s s1 s' : Sta} {K : PySem.W.Frag} {mg : Str → Option Value} {B : Ba}
variable {a b c e o : Expr} {es : List Expr} {f g h : Ev} {pos p2 p apos cpos : Pos} {st : Stmt} {x : Str}
variable {P : Program} {wd : World} {base : Heap}
/-- a def by its body, with what the body's rules ask -/
theorem fnB {x qual : Str} {st : Stmt} {fa : Addr} {fd : FuncData} {N ps : List Str} {lv k : Nat} {g : Ex} (F : Fun K x qual st fa fd) (S : FnScope N ps (defScope st)) (hk : ps.length + k = N.length)
    (hb : ∀ (cdv : Value) (A : Around) (outer : List PySem.Env) (s : Shared) (H : Hp) (E : XK) (G : Env), Room lv (cxOf (L2.CX P wd) P wd K mg base N qual (defScope st) fa cdv A outer s H E).A → (cxOf (L2.CX P wd) P wd K mg base N qual (defScope st) fa cdv A outer s H E).A.units + 64 < cLine →
      Passes (L2.CX P wd) (cxOf (L2.CX P wd) P wd K mg base N qual (defScope st) fa cdv A outer s H E) G.E →
      PassesOwn (model P wd) (cxOf (L2.CX P wd) P wd K mg base N qual (defScope st) fa cdv A outer s H E).A (cxOf (L2.CX P wd) P wd K mg base N qual (defScope st) fa cdv A outer s H E).env (cxOf (L2.CX P wd) P wd K mg base N qual (defScope st) fa cdv A outer s H E).xe →
      DSs (cxOf (L2.CX P wd) P wd K mg base N qual (defScope st) fa cdv A outer s H E) G (defBody st) g) :
    FnOk P wd K mg base (L2.CX P wd) (lv + 1) fa fd ps (spD K mg (runD ps.length g k)) := by
  refine fnD F S hk fun cdv A outer s H E G hr hG => ?_
  subst hG
  exact hb cdv A outer s H _ G hr hr.units (passD (takes_of rfl rfl rfl rfl)) (passes_of rfl)
theorem fnBad {lv : Nat} {fa : Addr} {fd : FuncData} {ps : List Str} : FnOk P wd K mg base (L2.CX P wd) lv fa fd ps (spD K mg fun _ _ => .bad) :=
  ⟨fun vs H Q E ⟨w, ds, st, _, _, _, h⟩ => h.elim, fun A outer s H args us vs Q E _ _ _ _ ⟨w, ds, st, _, _, _, h⟩ => h.elim⟩
/-- where a def stands -/
structure HereD (K : PySem.W.Frag) (mg : Str → Option Value) (x : Str) (st : Stmt) (ps : List Str) : Prop where
  ex : ∃ fa fd, Fun K x x st fa fd ∧ mg x = some (.ref fa) ∧ Binds K fd ps []
theorem HereD.has {st : Stmt} {ps : List Str} {lv : Nat} {m : Fn} (h : HereD K mg x st ps) (ok : ∀ fa fd, Fun K x x st fa fd → FnOk P wd K mg base (L2.CX P wd) lv fa fd ps (spD K mg m)) : HasD P wd K mg base lv x ps m := by
  obtain ⟨fa, fd, F, h1, h2⟩ := h.ex
  exact ⟨fa, fd, ok fa fd F, h1, F.kp, h2⟩
variable {lv lw : Nat} {ps : List Str} {m : Fn}
def noA : Sta → Res (List D) := fun s => .ok [] s
theorem de_callP0 (F : HasD X.prog X.w X.K X.mg X.base lv x ps m) (hr : Room lw X.A) (hlv : lv ≤ lw) (hx : Passes (L2.CX X.prog X.w) X G.E) (hg : Gl X x) (hdb : (x == ("__debug__" : Str)) = false := by decide) : DE X G (.Call (.Name x p) [] [] pos) (callP m nilA) := by
  obtain ⟨fa', fd, Fk, h1, h2, h3⟩ := F.here
  exact PEi (pe_call0 Fk (hr.mono hlv) hg h1 h2 h3 .nil hx hdb) fun σ H Q ⟨w, s, W, h⟩ => by
    show spD X.K X.mg m ([] ++ []) H Q G.E
    exact callP_at W .nil h
theorem de_callS0 (F : HasD X.prog X.w X.K X.mg X.base lv x ps m) (hr : Room lw X.A) (hlv : lv ≤ lw) (hx : Passes (L2.CX X.prog X.w) X G.E) (hg : Gl X x) (hdb : (x == ("__debug__" : Str)) = false := by decide) : DE X G (.Call (.Name x p) [] [] pos) (callS m nilA) := by
  obtain ⟨fa', fd, Fk, h1, h2, h3⟩ := F.here
  exact PEi (pe_call0 Fk (hr.mono hlv) hg h1 h2 h3 .nil hx hdb) fun σ H Q ⟨w, s, W, h⟩ => by
    show spD X.K X.mg m ([] ++ []) H Q G.E
    exact callS_at W .nil h
/-- x += e of ints -/
def augS (i : Nat) (g : Ev) (k : Int → Int → Int) : Ex := fun s => match s.sl[i]? with
  | some (.v (.p (.int n))) => bndS g (fun d s => match d with
    | .p (.int j) => .nx ⟨s.sl.set i (.v (.p (.int (k n j)))), s.st⟩
    | _ => .bad) s
  | _ => .bad
theorem aug_read {i : Nat} {k : Int → Int → Int} {D : Ends} (W : Wd X.K X.mg G.B w σ s H) (h : PostS X G w H (augS i g k s) D) : tAug i (tE X G g) (ipI k) D σ H := by
  unfold augS at h
  split at h
  · rename_i n e
    obtain ⟨v, ev, hv⟩ := W.sl i _ e
    cases hv with
    | p t =>
      cases t
      refine ⟨_, ev, w, s, W, PostS.bind h fun d s1 u w1 H1 m1 W1 r1 h1 => ?_⟩
      split at h1
      · cases (show Vd X.K H1 w1 _ u from r1) with
        | p t => cases t; exact ⟨_, _, rfl, rfl, h1 _ w1 H1 .refl (W1.setv (.p (.int _)))⟩
      · exact h1.elim
  · exact h.elim
theorem ds_augA {i : Nat} {pos' : Pos} (hN : X.N.Nodup) (hi : X.N[i]? = some x) (hx : Loc X.env.scope x) (ha : DE X G a g) (hf : X.fn x = true ∨ X.env.scope.names.lookup x = some .local := by first | exact .inl rfl | exact .inr rfl | assumption) : DS X G (.AugAssign (.Name x pos') .Add a pos) (augS i g (· + ·)) :=
  PSi (ps_aug hN hi hx ha ip_add hf) fun D σ H ⟨w, s, W, h⟩ => aug_read W h
theorem ds_augB {i : Nat} {pos' : Pos} (hN : X.N.Nodup) (hi : X.N[i]? = some x) (hx : Loc X.env.scope x) (ha : DE X G a g) (hf : X.fn x = true ∨ X.env.scope.names.lookup x = some .local := by first | exact .inl rfl | exact .inr rfl | assumption) : DS X G (.AugAssign (.Name x pos') .Sub a pos) (augS i g (· - ·)) :=
  PSi (ps_aug hN hi hx ha ip_sub hf) fun D σ H ⟨w, s, W, h⟩ => aug_read W h
end
end Dz
namespace Dz
open PySem PySem.Spec PyProof.Rows L2
section
variable {X : Cx} {G : Env} {σ σ' : L2.St} {w w1 w' : Wo} {H H1 H' : Hp} {s s1 s' : Sta} {K : PySem.W.Frag} {mg : Str → Option Value} {B : Ba}
variable {a b c e o : Expr} {es : List Expr} {f g h : Ev} {pos p2 p apos cpos spos : Pos} {st : Stmt} {x : Str}
/-! ### dict displays -/
def dispGo (sl : List Sl) : List (Key × Ev) → List (Key × D) → Option (List MO) → Option (List (Key × D) × Option (List MO))
  | [], acc, st => some (acc, st)
  | (k, f) :: r, acc, st => match f ⟨sl, st⟩ with
    | .ok d s' => dispGo sl r (acc ++ [(k, d)]) s'.st
    | _ => none
def disp (es : List (Key × Ev)) : Sta → Res (List (Key × D)) := fun s => match dispGo (inSl [] s.sl) es [] s.st with
  | some (kvs, st) => .ok kvs ⟨s.sl, st⟩
  | none => .bad
/-- the written pairs, as readings at any entry -/
def trsOf (X : Cx) (es : List (Key × Ev)) : List (TE × TE) := es.map fun kf => (tC (kV kf.1), tE0 X kf.2)
inductive DPs (X : Cx) (pos : Pos) : List (Option Expr) → List Expr → List (Key × Ev) → Prop
  | nil : DPs X pos [] [] []
  | cons {k v : Expr} {ks : List (Option Expr)} {vs : List Expr} {kk : Key} {f : Ev} {es : List (Key × Ev)} : PE X k (tC (kV kk)) → (∀ w0 H0, DE (X.wish fun _ _ => False) (G0 w0 H0) v f) → DPs X pos ks vs es → DPs X pos (some k :: ks) (v :: vs) ((kk, f) :: es)
theorem PE.unw {X : Cx} {e : Expr} {t : TE} (h : PE (X.wish fun _ _ => False) e t) : PE X e t := PE.nox h
theorem DPs.pps {es : List (Key × Ev)} {ks : List (Option Expr)} {vs : List Expr} (h : DPs X pos ks vs es) : PPs X pos ks vs (trsOf X es) := by
  induction h with
  | nil => exact pps_nil
  | @cons k v ks vs kk f es h1 h2 _ ih =>
    refine pps_cons h1 ⟨fun pins s σ H Q I ⟨w0, H0, q⟩ => (PE.nox (h2 w0 H0)).run pins s σ H Q I q⟩ ih
theorem wipe_nil {σ : L2.St} : wipe σ [] = σ := rfl
theorem VdK.mapK {κ : Type} {kvs : List (κ × D)} {vs : List (κ × V)} (t : VdK K H w kvs vs) : kvs.map (·.1) = vs.map (·.1) := by
  induction t with
  | nil => rfl
  | cons _ _ ih => simp [ih]
theorem VdK.app {κ : Type} {a b : List (κ × D)} {c d : List (κ × V)} (t : VdK K H w a c) (u : VdK K H w b d) : VdK K H w (a ++ b) (c ++ d) := by
  induction t with
  | nil => exact u
  | cons h _ ih => exact .cons h ih
theorem putK_new {kvs : List (Key × V)} {k : Key} {v : V} (h : k ∉ kvs.map (·.1)) : putK kvs k v = kvs ++ [(k, v)] := by
  unfold putK
  rw [if_neg]
  intro z
  rw [List.any_eq_true] at z
  obtain ⟨kv, hm, e⟩ := z
  exact h (by rw [← of_decide_eq_true e]; exact List.mem_map_of_mem hm)
theorem merge_new : ∀ {more kvs : List (Key × V)}, ((kvs ++ more).map (·.1)).Nodup → mergeK kvs more = kvs ++ more
  | [], kvs, _ => by simp [mergeK]
  | (k, v) :: more, kvs, h => by
    have e : mergeK kvs ((k, v) :: more) = mergeK (putK kvs k v) more := rfl
    have hk : k ∉ kvs.map (·.1) := fun z => by
      rw [List.map_append, List.map_cons] at h
      exact (List.nodup_append.mp h).2.2 k z k (by simp) rfl
    rw [e, putK_new hk, merge_new (by simpa using h)]
    simp
/-- what the pairs give: Q of the dict at p, made of them -/
theorem pairs_read {es : List (Key × Ev)} : ∀ {acc kvs : List (Key × D)} {vs : List (Key × V)} {stt stE : Option (List MO)} {wi : Wo} {Hi : Hp} {sl : List Sl} {pA : Addr} {R : List (V × V) → Hp → Prop}, Sound w1 H1 → Ext w1 H1 wi Hi → Sound wi Hi → StOk X.K X.mg Hi wi stt →
    (∀ (i : Nat) (d : D), sl[i]? = some (.v d) → ∃ v, σ[i]? = some (some v) ∧ Vd X.K H1 w1 d v) → sl.length ≤ σ.length → Hi pA = some (.dK []) → pA ∉ wi.ρ → ¬ wi.I pA → VdK X.K Hi wi acc vs → dispGo (inSl [] sl) es acc stt = some (kvs, stE) →
    (∀ more we He, Ext w1 H1 we He → Sound we He → StOk X.K X.mg He we stE → He pA = some (.dK []) → pA ∉ we.ρ → ¬ we.I pA → VdK X.K He we kvs (vs ++ more) → R (more.map fun kv => (kV kv.1, kv.2)) He) →
    tPairs (trsOf X es) σ Hi R := by
  induction es with
  | nil =>
    intro acc kvs vs stt stE wi Hi sl pA R s1 x sn so hsl hl hp nr ni t e k
    cases e
    exact k [] _ _ x sn so hp nr ni (by rw [List.append_nil]; exact t)
  | cons kf es ih =>
    obtain ⟨kk, f⟩ := kf
    intro acc kvs vs stt stE wi Hi sl pA R s1 x sn so hsl hl hp nr ni t e k
    rw [dispGo] at e
    have Wi : Wd X.K X.mg ⟨wi, Hi⟩ wi (wipe σ []) ⟨inSl [] sl, stt⟩ Hi := in_start sn so hl fun j d ej => by
      obtain ⟨v, ev, hv⟩ := hsl j d ej
      exact ⟨v, ev, hv.mono (x.mono s1)⟩
    rw [wipe_nil] at Wi
    show tC (kV kk) σ Hi fun x H1 => tE0 X f σ H1 fun y H2 => tPairs (trsOf X es) σ H2 fun ps H3 => R ((x, y) :: ps) H3
    refine ⟨wi, Hi, wi, _, Wi, ?_⟩
    cases ef : f ⟨inSl [] sl, stt⟩ with
    | bad => rw [ef] at e; cases e
    | ex c fs => rw [ef] at e; cases e
    | ok d s2 =>
      rw [ef] at e
      intro v w2 H2 m2 W2 r2
      have x2 : Ext wi Hi w2 H2 := W2.ext
      have hp2 := x2.keep _ _ hp nr
      have nr2 : pA ∉ w2.ρ := fun z => by
        rcases x2.newr _ z with z | z
        · exact nr z
        · rw [hp] at z; cases z
      have ni2 : ¬ w2.I pA := fun z => by
        rcases x2.newi _ z with z | z
        · exact ni z
        · rw [hp] at z; cases z
      have t2 : VdK X.K H2 w2 (acc ++ [(kk, d)]) (vs ++ [(kk, v)]) := (t.mono m2).app (.cons (show Vd X.K H2 w2 d v from r2) .nil)
      exact ih (R := fun ps H3 => R ((kV kk, v) :: ps) H3) s1 (x.trans x2) W2.snd W2.sto hsl hl hp2 nr2 ni2 t2 e fun more we He g1 g2 g3 g4 g5 g6 g7 => k ((kk, v) :: more) we He g1 g2 g3 g4 g5 g6 (by simpa using g7)
/-- all the values are data -/
def dispF (es : List (Key × Ev)) : Sta → Res Lin := bnd (disp es) fun kvs s => match kvs.mapM (fun kd => (unP kd.2).map fun x => (kd.1, x)) with
  | some xs => if (kvs.map (·.1)).Nodup ∧ kvs.length ≤ 15 then .ok (.dic xs) s else .bad
  | none => .bad
def dispS (es : List (Key × Ev)) : Ev := bnd (disp es) fun kvs s => if (kvs.map (·.1)).Nodup ∧ kvs.length ≤ 15 then alloc (.dic kvs) s else .bad
/-- the dict stands at p: what is known of it -/
theorem disp_read {es : List (Key × Ev)} {kvs : List (Key × D)} {stE : Option (List MO)} {Q : VK} (W : Wd X.K X.mg G.B w σ s H) (e : dispGo (inSl [] s.sl) es [] s.st = some (kvs, stE)) (nd : (kvs.map (·.1)).Nodup) (h15 : kvs.length ≤ 15)
    (k : ∀ (p : Addr) (vs : List (Key × V)) we He, H p = none → Ext w H we He → Sound we He → StOk X.K X.mg He we stE → He p = some (.dK vs) → p ∉ we.ρ → ¬ we.I p → VdK X.K He we kvs vs → Q (.ref p) He) : tDisp (trsOf X es) σ H Q := by
  intro p np
  have b0 := W.bare (o := .dK []) np
  have x0 : Ext w H w (upd H p (.dK [])) := Ext.refl.updF np
  refine pairs_read W.snd x0 b0.2.1.snd b0.2.1.sto (fun i d ed => W.sl i _ ed) W.len upd_same b0.2.2.1 b0.2.2.2.1 .nil e fun more we He g1 g2 g3 g4 g5 g6 g7 => ⟨g4, more, rfl, by have := VdK.len g7; simp only [List.nil_append] at this; omega, ?_⟩
  have g7 : VdK X.K He we kvs more := g7
  have nd' : (more.map (·.1)).Nodup := by rw [← g7.mapK]; exact nd
  rw [merge_new (by simpa using nd'), List.nil_append]
  refine k p more we _ np (g1.updF np) g2.updF ?_ upd_same g5 g6 (g7.mono (.wr g6))
  cases stE with
  | none => trivial
  | some S =>
    refine ⟨g3.1, fun n b m e1 e2 => (g3.2 n b m e1 e2).mono (fun o eo => ?_) (fun d ed => ?_) (.wr g6)⟩
    · rw [upd_ne (fun z => by subst z; exact g5 (List.mem_of_getElem? e1))]; exact eo
    · rw [upd_ne (fun z => by subst z; rw [g4] at ed; cases ed)]; exact ed
theorem disp_ok {es : List (Key × Ev)} {kvs : List (Key × D)} {s2 : Sta} (e : disp es s = .ok kvs s2) : ∃ st, dispGo (inSl [] s.sl) es [] s.st = some (kvs, st) ∧ s2 = ⟨s.sl, st⟩ := by
  unfold disp at e
  split at e
  · rename_i k st e1; cases e; exact ⟨st, e1, rfl⟩
  · cases e
theorem disp_ex {es : List (Key × Ev)} {c : Str} {fs : List P} (e : disp es s = .ex c fs) : False := by
  unfold disp at e; split at e <;> cases e
theorem noLin {K : PySem.W.Frag} {mg : Str → Option Value} {B : Ba} {p : Addr} (W : Wd K mg B w σ s H) (np : H p = none) : ∀ i : Nat, isLin s.sl[i]? = true → σ[i]? ≠ some (some (.ref p)) := fun j hj z => by
  obtain ⟨a, _, e1, h1, _⟩ := W.linAddr hj
  rw [e1] at z
  cases z
  exact h1.there np
variable {ks : List (Option Expr)} {vs : List Expr} {kes : List (Key × Ev)}
theorem df_disp (h : DPs X pos ks vs kes) (hall : ks.all (·.isSome) = true := by rfl) (hl : ks.length = vs.length := by rfl) (h0 : ks ≠ [] := by exact fun z => by cases z) (h15 : ks.length ≤ 15 := by decide) : DF X G (.Dict ks vs pos) (dispF kes) :=
  PEi (pe_disp h.pps hall hl h0 h15) fun σ H Q ⟨w, s, W, q⟩ => by
    unfold dispF bnd at q
    cases ed : disp kes s with
    | bad => rw [ed] at q; exact q.elim
    | ex c fs => exact (disp_ex ed).elim
    | ok kvs s2 =>
      rw [ed] at q
      simp only at q
      obtain ⟨st, e1, rfl⟩ := disp_ok ed
      split at q
      · rename_i xs ex
        split at q
        · rename_i hc
          exact disp_read W e1 hc.1 hc.2 fun p vs we He np x sn so hp nr ni t => q p we He (x.mono W.snd) (W.step x sn so) (.dic hp (t.td ex)) nr ni (W.ext.there p np) (show ∀ i : Nat, isLin s.sl[i]? = true → _ from noLin W np)
        · exact q.elim
      · exact q.elim
theorem de_dispS (h : DPs X pos ks vs kes) (hall : ks.all (·.isSome) = true := by rfl) (hl : ks.length = vs.length := by rfl) (h0 : ks ≠ [] := by exact fun z => by cases z) (h15 : ks.length ≤ 15 := by decide) : DE X G (.Dict ks vs pos) (dispS kes) :=
  PEi (pe_disp h.pps hall hl h0 h15) fun σ H Q ⟨w, s, W, q⟩ => by
    unfold dispS bnd at q
    cases ed : disp kes s with
    | bad => rw [ed] at q; exact q.elim
    | ex c fs => exact (disp_ex ed).elim
    | ok kvs s2 =>
      rw [ed] at q
      simp only at q
      obtain ⟨st, e1, rfl⟩ := disp_ok ed
      split at q
      · rename_i hc
        refine disp_read W e1 hc.1 hc.2 fun p vs we He np x sn so hp nr ni t => ?_
        have W2 := W.step x sn so
        unfold alloc at q
        cases st with
        | none => exact q.elim
        | some S =>
          obtain ⟨W3, hl3⟩ := W2.put (m := .dic kvs) (a := p) rfl (.dic hp t) nr ni (W.ext.there p np) (show ∀ i : Nat, isLin s.sl[i]? = true → _ from noLin W np)
          exact q (.ref p) (we.put p) He ((x.mono W.snd).trans .put) W3 (.loc hl3)
      · exact q.elim
def newDic : Sta → Res Lin := fun s => .ok (.dic []) s
def newDct : Sta → Res Lin := fun s => .ok (.dct []) s
theorem df_dic : DF X G (.Dict [] [] pos) newDic := PEi pe_dnewK fun σ H Q ⟨w, s, W, q⟩ => fun p np => PostF.new W np (fun mo => .dic upd_same .nil) q
theorem df_dct : DF X G (.Dict [] [] pos) newDct := PEi pe_dnewT fun σ H Q ⟨w, s, W, q⟩ => fun p np => PostF.new W np (fun mo => .dct upd_same .nil) q
theorem de_dicS : DE X G (.Dict [] [] pos) (alloc (.dic [])) := PEi pe_dnewK fun σ H Q ⟨w, s, W, q⟩ => fun p np => alloc_at W np (fun mo => .dic upd_same .nil) q
theorem de_dctS : DE X G (.Dict [] [] pos) (alloc (.dct [])) := PEi pe_dnewT fun σ H Q ⟨w, s, W, q⟩ => fun p np => alloc_at W np (fun mo => .dct upd_same .nil) q
end
end Dz
namespace Dz
open PySem PySem.Spec PyProof.Rows L2
section
variable {X : Cx} {G : Env} {σ σ' : L2.St} {w w1 w' : Wo} {H H1 H' : Hp} {s s1 s' : Sta} {K : PySem.W.Frag} {mg : Str → Option Value} {B : Ba}
variable {a b c e o key value : Expr} {es : List Expr} {f g h fk fv : Ev} {pos p2 p apos cpos spos pos' : Pos} {st : Stmt} {x : Str}
/-! ### d[k] = v -/
def putD {κ : Type} [DecidableEq κ] {α : Type} (kvs : List (κ × α)) (k : κ) (v : α) : List (κ × α) :=
  if (kvs.any fun kv => decide (kv.1 = k)) = true then kvs.map (fun kv => if kv.1 = k then (kv.1, v) else kv) else kvs ++ [(k, v)]
theorem TdK.vdx {κ : Type} {xs : List (κ × P)} {vs : List (κ × V)} (h : TdK K false H w.I xs vs) : VdK K H w (xs.map fun kv => (kv.1, .p kv.2)) vs := h.vd
theorem VdK.anyK {κ : Type} [DecidableEq κ] {kvs : List (κ × D)} {vs : List (κ × V)} (t : VdK K H w kvs vs) (k : κ) : (kvs.any fun kv => decide (kv.1 = k)) = vs.any fun kv => decide (kv.1 = k) := by
  induction t with
  | nil => rfl
  | cons _ _ ih => simp [ih]
theorem VdK.mapP {κ : Type} [DecidableEq κ] {kvs : List (κ × D)} {vs : List (κ × V)} (t : VdK K H w kvs vs) {k : κ} {d : D} {v : V} (h : Vd K H w d v) : VdK K H w (kvs.map fun kv => if kv.1 = k then (kv.1, d) else kv) (vs.map fun kv => if kv.1 = k then (kv.1, v) else kv) := by
  induction t with
  | nil => exact .nil
  | @cons k' x xs u us h1 _ ih =>
    rw [List.map_cons, List.map_cons]
    by_cases e : k' = k
    · rw [if_pos e, if_pos e]; exact .cons h ih
    · rw [if_neg e, if_neg e]; exact .cons h1 ih
theorem VdK.put {κ : Type} [DecidableEq κ] {kvs : List (κ × D)} {vs : List (κ × V)} (t : VdK K H w kvs vs) {k : κ} {d : D} {v : V} (h : Vd K H w d v) : VdK K H w (putD kvs k d) (putK vs k v) := by
  unfold putD putK
  rw [t.anyK k]
  split
  · exact t.mapP h
  · exact t.app (.cons h .nil)
theorem TdK.anyK {κ : Type} [DecidableEq κ] {J : Addr → Prop} {kvs : List (κ × P)} {vs : List (κ × V)} (t : TdK K false H J kvs vs) (k : κ) : (kvs.any fun kv => decide (kv.1 = k)) = vs.any fun kv => decide (kv.1 = k) := by
  induction t with
  | nil => rfl
  | cons _ _ ih => simp [ih]
theorem TdK.mapP {κ : Type} [DecidableEq κ] {J : Addr → Prop} {kvs : List (κ × P)} {vs : List (κ × V)} (t : TdK K false H J kvs vs) {k : κ} {d : P} {v : V} (h : Td K false H J d v) : TdK K false H J (kvs.map fun kv => if kv.1 = k then (kv.1, d) else kv) (vs.map fun kv => if kv.1 = k then (kv.1, v) else kv) := by
  induction t with
  | nil => exact .nil
  | @cons k' x xs u us h1 _ ih =>
    rw [List.map_cons, List.map_cons]
    by_cases e : k' = k
    · rw [if_pos e, if_pos e]; exact .cons h ih
    · rw [if_neg e, if_neg e]; exact .cons h1 ih
theorem TdK.app {κ : Type} {J : Addr → Prop} {a b : List (κ × P)} {c d : List (κ × V)} (t : TdK K false H J a c) (u : TdK K false H J b d) : TdK K false H J (a ++ b) (c ++ d) := by
  induction t with
  | nil => exact u
  | cons h _ ih => exact .cons h ih
theorem TdK.put {κ : Type} [DecidableEq κ] {J : Addr → Prop} {kvs : List (κ × P)} {vs : List (κ × V)} (t : TdK K false H J kvs vs) {k : κ} {d : P} {v : V} (h : Td K false H J d v) : TdK K false H J (putD kvs k d) (putK vs k v) := by
  unfold putD putK
  rw [t.anyK k]
  split
  · exact t.mapP h
  · exact t.app (.cons h .nil)
def putAt (q : Pk) (i : Nat) (k v : D) : Sta → Option Sta := fun s => match q, k with
  | .lin (.dic kvs), .p kx => match v with
    | .p x => (keyP kx).bind fun kk => if kvs.length < sizeLine then some ⟨s.sl.set i (.lin (.dic (putD kvs kk x))), s.st⟩ else none
    | _ => none
  | .lin (.dct kvs), .p kx => match v with
    | .p x => (keysP kx).bind fun kk => if kvs.length < sizeLine then some ⟨s.sl.set i (.lin (.dct (putD kvs kk x))), s.st⟩ else none
    | _ => none
  | .d (.loc n), .p kx => match s.st with
    | some S => match S[n]? with
      | some (.dic ds) => (keyP kx).bind fun kk => if ds.length < sizeLine then some ⟨s.sl, some (S.set n (.dic (putD ds kk v)))⟩ else none
      | some (.dct ds) => (keysP kx).bind fun kk => if ds.length < sizeLine then some ⟨s.sl, some (S.set n (.dct (putD ds kk v)))⟩ else none
      | _ => none
    | none => none
  | _, _ => none
theorem TdK.len {κ : Type} {J : Addr → Prop} {xs : List (κ × P)} {vs : List (κ × V)} (t : TdK K false H J xs vs) : xs.length = vs.length := by induction t <;> simp_all
/-- a name's slot, when it is a list or dict of its own -/
theorem pk_lin {i : Nat} {m : Lin} {s2 : Sta} (e : pk i s = .ok (.lin m) s2) : s.sl[i]? = some (.lin m) := by
  unfold pk at e
  split at e
  · cases e
  · rename_i m' e1; cases e; exact e1
  · cases e
theorem put_at {q : Pk} {i : Nat} {k v : D} {s2 : Sta} {vq vk vv : V} {R : Hp → Prop} (W : Wd X.K X.mg G.B w σ s H) (ev : σ[i]? = some (some vq)) (hl : ∀ m, q = .lin m → s.sl[i]? = some (.lin m)) (hq : RP X.K H w q vq) (hk : Vd X.K H w k vk) (hv : Vd X.K H w v vv) (e : putAt q i k v s = some s2)
    (h : ∀ H', Mono w H w H' → Wd X.K X.mg G.B w σ s2 H' → R H') : ∃ a H4, vq = .ref a ∧ DPut H a vk vv H4 ∧ R H4 := by
  unfold putAt at e
  split at e
  · rename_i kvs kx
    split at e
    · rename_i x
      obtain ⟨kk, ek, e2⟩ := Option.bind_eq_some_iff.mp e
      split at e2
      · rename_i hz
        cases e2
        obtain ⟨a, ea, l0, n1, n2, n3⟩ := W.sl i _ (hl _ rfl)
        obtain ⟨a', rfl, l⟩ := hq
        rw [ev] at ea
        cases ea
        cases l with
        | @dic _ vs h1 t =>
          cases hk with
          | p tk =>
            cases key_v tk ek
            cases hv with
            | p tv =>
              have mo : Mono w H w (upd H a (.dK (putK vs kk vv))) := .wr n2
              exact ⟨_, _, rfl, .k h1 (by rw [← t.len]; exact hz), h _ mo (W.wr (hl _ rfl) ev (.dic upd_same ((t.mono mo.imm).put (tv.mono mo.imm))))⟩
      · cases e2
    · cases e
  · rename_i kvs kx
    split at e
    · rename_i x
      obtain ⟨kk, ek, e2⟩ := Option.bind_eq_some_iff.mp e
      split at e2
      · rename_i hz
        cases e2
        obtain ⟨a, ea, l0, n1, n2, n3⟩ := W.sl i _ (hl _ rfl)
        obtain ⟨a', rfl, l⟩ := hq
        rw [ev] at ea
        cases ea
        cases l with
        | @dct _ vs h1 t =>
          cases hk with
          | p tk =>
            obtain ⟨c, rfl, hc⟩ := keysP_at tk ek
            cases hv with
            | p tv =>
              have mo : Mono w H w (upd H a (.dT (putK vs kk vv))) := .wr n2
              exact ⟨_, _, rfl, .t h1 hc (by rw [← t.len]; exact hz), h _ mo (W.wr (hl _ rfl) ev (.dct upd_same ((t.mono mo.imm).put (tv.mono mo.imm))))⟩
      · cases e2
    · cases e
  · rename_i n kx
    split at e
    · rename_i S es
      cases (show Vd X.K H w (.loc n) vq from hq) with
      | @loc _ a hn =>
        have so := W.sto
        rw [es] at so
        have n2 : ¬ w.I a := W.snd.ri a (List.mem_of_getElem? hn)
        cases hk with
        | p tk =>
          split at e
          · rename_i ds em
            obtain ⟨kk, ek, e2⟩ := Option.bind_eq_some_iff.mp e
            split at e2
            · rename_i hz
              cases e2
              cases key_v tk ek
              have mk := so.2 n a _ hn em
              have hno := mk.noOwn
              cases mk with
              | @dic _ vs h1 t =>
                obtain ⟨W', mo⟩ := W.wrS (u := .dK (putK vs kk vv)) (m' := .dic (putD ds kk v)) es hn em (.dic upd_same ((t.mono (.wr n2)).put (hv.mono (.wr n2)))) hno
                exact ⟨a, _, rfl, .k h1 (by rw [← t.len]; exact hz), h _ mo W'⟩
            · cases e2
          · rename_i ds em
            obtain ⟨kk, ek, e2⟩ := Option.bind_eq_some_iff.mp e
            split at e2
            · rename_i hz
              cases e2
              obtain ⟨c, rfl, hc⟩ := keysP_at tk ek
              have mk := so.2 n a _ hn em
              have hno := mk.noOwn
              cases mk with
              | @dct _ vs h1 t =>
                obtain ⟨W', mo⟩ := W.wrS (u := .dT (putK vs kk vv)) (m' := .dct (putD ds kk v)) es hn em (.dct upd_same ((t.mono (.wr n2)).put (hv.mono (.wr n2)))) hno
                exact ⟨a, _, rfl, .t h1 hc (by rw [← t.len]; exact hz), h _ mo W'⟩
            · cases e2
          · cases e
    · cases e
  · cases e
def putV (i : Nat) (fk fv : Ev) : Ex := bndS fv fun v => bndS (pk i) fun _ => bndS fk fun k => bndS (pk i) fun q s => match putAt q i k v s with
  | some s' => .nx s'
  | none => .bad
theorem pkS {i : Nat} {k : Pk → Ex} {D : Ends} (W : Wd X.K X.mg G.B w σ s H) (h : PostS X G w H (bndS (pk i) k s) D) : ∃ q v, σ[i]? = some (some v) ∧ RP X.K H w q v ∧ (∀ m, q = .lin m → s.sl[i]? = some (.lin m)) ∧ PostS X G w H (k q s) D := by
  unfold bndS at h
  cases ep : pk i s with
  | bad => rw [ep] at h; exact h.elim
  | ex c fs => exact (pk_ex ep).elim
  | ok q s2 =>
    obtain ⟨rfl, v, ev, rk⟩ := pk_at W ep
    rw [ep] at h
    exact ⟨q, v, ev, rk, fun m em => by subst em; exact pk_lin ep, h⟩
theorem ds_putV {i : Nat} {px : Pos} (hu : X.A.units + 64 < cLine) (hk : DE X G key fk) (hv : DE X G value fv) (hN : X.N[i]? = some x := by rfl) (hvi : Vis X.env.scope x := by first | exact Or.inl rfl | exact Or.inr (Or.inl rfl) | exact Or.inr (Or.inr rfl))
    (hd : (x == ("__debug__" : Str)) = false := by decide) (hcd : (x == ("__classdict__" : Str)) = false := by decide) (hs : swapsWith value (some (.Subscript (.Name x px) key pos')) pos.line X.env = pure false := by rfl) : DS X G (.Assign [.Subscript (.Name x px) key pos'] value pos) (putV i fk fv) :=
  PSi (ps_dput (by omega) (pe_var (i := i) hN hvi hd hcd) hk hv hs) fun D σ H ⟨w, s, W, h⟩ => ⟨w, s, W, PostS.bind h fun v s1 vv w1 H1 m1 W1 r1 h => by
    obtain ⟨q0, v0, ev, _, _, h⟩ := pkS W1 h
    refine ⟨v0, ev, w1, s1, W1, PostS.bind h fun k s2 vk w2 H2 m2 W2 r2 h => ?_⟩
    obtain ⟨q, v1, ev1, rq, hl, h⟩ := pkS W2 h
    rw [ev] at ev1
    cases ev1
    split at h
    · rename_i s3 es
      exact put_at W2 ev hl rq r2 (Vd.mono m2 r1) es fun H' mo W' => h σ w2 H' mo W'
    · exact h.elim⟩
end
end Dz
namespace Dz
open PySem PySem.Spec PyProof.Rows L2
section
variable {X : Cx} {G : Env} {σ σ' : L2.St} {w w1 w' : Wo} {H H1 H' : Hp} {s s1 s' : Sta} {K : PySem.W.Frag} {mg : Str → Option Value} {B : Ba}
variable {a b c e o key value : Expr} {es : List Expr} {f g h fk fv : Ev} {pos p2 p apos cpos spos pos' px : Pos} {st : Stmt} {x : Str}
/-! ### xs.extend(e), xs.pop() -/
def extAt (q : Pk) (i : Nat) (d : D) : Sta → Option Sta := fun s => match q, d with
  | .lin (.lst xs), .p (.lst ys) => if xs.length + ys.length ≤ sizeLine then some ⟨s.sl.set i (.lin (.lst (xs ++ ys))), s.st⟩ else none
  | .d (.loc n), .p (.lst ys) => match s.st with
    | some S => match S[n]? with
      | some (.lst ds) => if ds.length + ys.length ≤ sizeLine then some ⟨s.sl, some (S.set n (.lst (ds ++ ys.map .p)))⟩ else none
      | _ => none
    | none => none
  | _, _ => none
theorem ext_at {q : Pk} {i : Nat} {d : D} {v u : V} {Q : VK} {s2 : Sta} (W : Wd X.K X.mg G.B w σ s H) (ev : σ[i]? = some (some v)) (hl : ∀ m, q = .lin m → s.sl[i]? = some (.lin m)) (hq : RP X.K H w q v) (hd : Vd X.K H w d u) (e : extAt q i d s = some s2)
    (h : ∀ H', Mono w H w H' → Wd X.K X.mg G.B w σ s2 H' → Q .non H') : rExtend v [u] H Q := by
  unfold extAt at e
  split at e
  · split at e
    · rename_i hz
      cases e
      obtain ⟨a, ea, l0, n1, n2, n3⟩ := W.sl i _ (hl _ rfl)
      obtain ⟨a', rfl, l⟩ := hq
      rw [ev] at ea
      cases ea
      cases l with
      | @lst _ vs h1 t =>
        cases hd with
        | p td =>
          obtain ⟨b, us, rfl, h2, t2⟩ := td.lstAt
          have mo : Mono w H w (upd H _ (.lst (vs ++ us))) := .wr n2
          exact ⟨_, b, vs, us, rfl, rfl, h1, h2, by rw [← t.len, ← t2.len]; exact hz, h _ mo (W.wr (hl _ rfl) ev (.lst upd_same ((t.mono mo.imm).app (t2.mono mo.imm))))⟩
    · cases e
  · rename_i n ys
    split at e
    · rename_i S es
      split at e
      · rename_i ds em
        split at e
        · rename_i hz
          cases e
          cases (show Vd X.K H w (.loc n) v from hq) with
          | @loc _ a hn =>
            have so := W.sto
            rw [es] at so
            have mk := so.2 n a _ hn em
            have hno := mk.noOwn
            cases mk with
            | @lst _ vs h1 t =>
              cases hd with
              | p td =>
                obtain ⟨b, us, rfl, h2, t2⟩ := td.lstAt
                have n2 : ¬ w.I a := W.snd.ri a (List.mem_of_getElem? hn)
                obtain ⟨W', mo⟩ := W.wrS (u := .lst (vs ++ us)) (m' := .lst (ds ++ ys.map .p)) es hn em (.lst upd_same ((t.mono (.wr n2)).app ((t2.vd (w := w)).mono (.wr n2)))) hno
                exact ⟨a, b, vs, us, rfl, rfl, h1, h2, by rw [← t.len, ← t2.len]; exact hz, h _ mo W'⟩
        · cases e
      · cases e
    · cases e
  · cases e
def extV (i : Nat) (g : Ev) : Ex := bndS (pk i) fun k s => if isLst k s = true ∧ (seqPk k s).isSome = true then bndS g (fun d => bndS (pk i) fun k' s => match extAt k' i d s with
  | some s' => .nx s'
  | none => .bad) s else .bad
theorem ds_extV {i : Nat} (hb : DE X G e g) (hN : X.N[i]? = some x := by rfl) (hv : Vis X.env.scope x := by first | exact Or.inl rfl | exact Or.inr (Or.inl rfl) | exact Or.inr (Or.inr rfl))
    (hd : (x == ("__debug__" : Str)) = false := by decide) (hcd : (x == ("__classdict__" : Str)) = false := by decide)
    (hbase : attributeBase (.Name x px) "extend" X.env (eval (.Name x px) X.env) = eval (.Name x px) X.env := by rfl)
    (hfew : ((backTo cpos (starEach [e] X.env)).all (fun x => !x.1) && (backToKw cpos (keywordEach [] X.env)).all (fun x => x.1.isSome) && decide ([e].length + ([] : List Keyword).length + (if ([] : List Keyword).isEmpty then 0 else 1) < 30)) = true := by rfl)
    (hline : (apos.endLine == cpos.line) = true := by rfl) (h1 : starEach [e] X.env = (false, eval e X.env) :: starEach [] X.env := by rfl) (hplain : (backTo cpos (starEach [] X.env)).any (·.1) = false := by rfl)
    (hs : swapsWith (.Call (.Attribute (.Name x px) "extend" apos) [e] [] cpos) none pos.line X.env = pure false := by rfl) : DS X G (.Expr (.Call (.Attribute (.Name x px) "extend" apos) [e] [] cpos) pos) (extV i g) :=
  PSi (ps_expr (pe_bm PySem.F.plainAttrs_list PySem.F.slot_list_extend PySem.F.type_list_extend mt_extend (pe_var (i := i) hN hv hd hcd) (pa_cons hb pa_nil h1) hbase hfew hline h1 hplain) hs) fun D σ H ⟨w, s, W, h⟩ => by
    obtain ⟨q0, v0, ev, r0, _, h⟩ := pkS W h
    split at h
    · rename_i hl
      obtain ⟨ds, eds⟩ := Option.isSome_iff_exists.mp hl.2
      refine ⟨v0, ev, tyL_at W r0 hl.1 ds eds, w, s, W, PostS.bind h fun d s1 u w1 H1 m1 W1 r1 h => ?_⟩
      obtain ⟨q, v1, ev1, rq, hl1, h⟩ := pkS W1 h
      rw [ev] at ev1
      cases ev1
      split at h
      · rename_i s3 es
        exact ext_at (Q := fun _ H' => D.nx σ H') W1 ev hl1 rq r1 es fun H' mo W' => h σ w1 H' mo W'
      · exact h.elim
    · exact h.elim
def popV (i : Nat) : Ev := fun s => match s.sl[i]? with
  | some (.lin (.lst xs)) => match xs[xs.length - 1]? with
    | some x => .ok (.p x) ⟨s.sl.set i (.lin (.lst xs.dropLast)), s.st⟩
    | none => .bad
  | some (.v (.loc n)) => match s.st with
    | some S => match S[n]? with
      | some (.lst ds) => match ds[ds.length - 1]? with
        | some d => .ok d ⟨s.sl, some (S.set n (.lst ds.dropLast))⟩
        | none => .bad
      | _ => .bad
    | none => .bad
  | _ => .bad
theorem TdL.dropLast {J : Addr → Prop} {xs : List P} {vs : List V} (t : TdL K false H J xs vs) : TdL K false H J xs.dropLast vs.dropLast := by
  rw [List.dropLast_eq_take, List.dropLast_eq_take, ← t.len]
  exact t.take _
theorem VdL.take : ∀ {xs : List D} {vs : List V} (n : Nat), VdL K H w xs vs → VdL K H w (xs.take n) (vs.take n)
  | _, _, 0, _ => .nil
  | _, _, n + 1, .nil => .nil
  | _, _, n + 1, .cons a t => .cons a (VdL.take n t)
theorem VdL.dropLast {xs : List D} {vs : List V} (t : VdL K H w xs vs) : VdL K H w xs.dropLast vs.dropLast := by
  rw [List.dropLast_eq_take, List.dropLast_eq_take, ← t.len]
  exact t.take _
theorem de_popV {i : Nat} (hN : X.N[i]? = some x := by rfl) (hv : Vis X.env.scope x := by first | exact Or.inl rfl | exact Or.inr (Or.inl rfl) | exact Or.inr (Or.inr rfl))
    (hd : (x == ("__debug__" : Str)) = false := by decide) (hcd : (x == ("__classdict__" : Str)) = false := by decide)
    (hbase : attributeBase (.Name x px) "pop" X.env (eval (.Name x px) X.env) = eval (.Name x px) X.env := by rfl) (hline : (apos.endLine == cpos.line) = true := by rfl) : DE X G (.Call (.Attribute (.Name x px) "pop" apos) [] [] cpos) (popV i) :=
  PEi (pe_bm0 PySem.F.plainAttrs_list PySem.F.slot_list_pop PySem.F.type_list_pop mt_pop (pe_var (i := i) hN hv hd hcd) hbase hline) fun σ H Q ⟨w, s, W, h⟩ => by
    unfold popV at h
    split at h
    · rename_i xs e
      split at h
      · rename_i y ey
        obtain ⟨a, ea, l, n1, n2, n3⟩ := W.sl i _ e
        cases l with
        | @lst _ vs h1 t =>
          obtain ⟨v, e1, tv⟩ := t.at ey
          have mo : Mono w H w (upd H a (.lst vs.dropLast)) := .wr n2
          refine ⟨.ref a, ea, .inl ⟨rfl, vs, .of h1⟩, a, vs, v, rfl, rfl, h1, by rw [← t.len]; exact e1, ?_⟩
          exact h v w _ mo (W.wr e ea (.lst upd_same (t.mono mo.imm).dropLast)) (.p (tv.mono mo.imm))
      · exact h.elim
    · rename_i n e
      obtain ⟨v0, ev, hv0⟩ := W.sl i _ e
      split at h
      · rename_i S es
        split at h
        · rename_i ds em
          split at h
          · rename_i d ed
            cases hv0 with
            | @loc _ a hn =>
              have so := W.sto
              rw [es] at so
              have mk := so.2 n a _ hn em
              have hno := mk.noOwn
              cases mk with
              | @lst _ vs h1 t =>
                have n2 : ¬ w.I a := W.snd.ri a (List.mem_of_getElem? hn)
                obtain ⟨v, e1, tv⟩ := t.at ed
                obtain ⟨W', mo⟩ := W.wrS (u := .lst vs.dropLast) (m' := .lst ds.dropLast) es hn em (.lst upd_same (t.mono (.wr n2)).dropLast) hno
                refine ⟨.ref a, ev, .inl ⟨rfl, vs, .of h1⟩, a, vs, v, rfl, rfl, h1, by rw [← t.len]; exact e1, ?_⟩
                exact h v w _ mo W' (tv.mono mo)
          · exact h.elim
        · exact h.elim
      · exact h.elim
    · exact h.elim
/-! ### xs[i] = v -/
def lsetAt (q : Pk) (i : Nat) (k v : D) : Sta → Option Sta := fun s => match q, k with
  | .lin (.lst xs), .p (.int n) => match v, ixN xs.length n with
    | .p x, some j => some ⟨s.sl.set i (.lin (.lst (xs.set j x))), s.st⟩
    | _, _ => none
  | .d (.loc m), .p (.int n) => match s.st with
    | some S => match S[m]? with
      | some (.lst ds) => (ixN ds.length n).map fun j => ⟨s.sl, some (S.set m (.lst (ds.set j v)))⟩
      | _ => none
    | none => none
  | _, _ => none
theorem TdL.set {J : Addr → Prop} {x : P} {v : V} (h : Td K false H J x v) : ∀ {xs : List P} {vs : List V} (j : Nat), TdL K false H J xs vs → TdL K false H J (xs.set j x) (vs.set j v)
  | _, _, _, .nil => .nil
  | _, _, 0, .cons _ t => .cons h t
  | _, _, j + 1, .cons a t => .cons a (TdL.set h j t)
theorem VdL.set {x : D} {v : V} (h : Vd K H w x v) : ∀ {xs : List D} {vs : List V} (j : Nat), VdL K H w xs vs → VdL K H w (xs.set j x) (vs.set j v)
  | _, _, _, .nil => .nil
  | _, _, 0, .cons _ t => .cons h t
  | _, _, j + 1, .cons a t => .cons a (VdL.set h j t)
theorem lset_at {q : Pk} {i : Nat} {k v : D} {s2 : Sta} {vq vk vv : V} {R : Hp → Prop} (W : Wd X.K X.mg G.B w σ s H) (ev : σ[i]? = some (some vq)) (hl : ∀ m, q = .lin m → s.sl[i]? = some (.lin m)) (hq : RP X.K H w q vq) (hk : Vd X.K H w k vk) (hv : Vd X.K H w v vv) (e : lsetAt q i k v s = some s2)
    (h : ∀ H', Mono w H w H' → Wd X.K X.mg G.B w σ s2 H' → R H') : rSetL vq vk vv H R := by
  unfold lsetAt at e
  split at e
  · rename_i xs n
    split at e
    · rename_i x j ej
      cases e
      obtain ⟨a, ea, l0, n1, n2, n3⟩ := W.sl i _ (hl _ rfl)
      obtain ⟨a', rfl, l⟩ := hq
      rw [ev] at ea
      cases ea
      cases l with
      | @lst _ vs h1 t =>
        cases hk with
        | p tk =>
          cases tk
          cases hv with
          | p tv =>
            have mo : Mono w H w (upd H _ (.lst (vs.set j vv))) := .wr n2
            exact ⟨_, vs, n, j, rfl, rfl, h1, by rw [← t.len]; exact ej, h _ mo (W.wr (hl _ rfl) ev (.lst upd_same (TdL.set (tv.mono mo.imm) j (t.mono mo.imm))))⟩
    · cases e
  · rename_i m n
    split at e
    · rename_i S es
      split at e
      · rename_i ds em
        obtain ⟨j, ej, rfl⟩ := Option.map_eq_some_iff.mp e
        cases (show Vd X.K H w (.loc m) vq from hq) with
        | @loc _ a hn =>
          have so := W.sto
          rw [es] at so
          have mk := so.2 m a _ hn em
          have hno := mk.noOwn
          cases mk with
          | @lst _ vs h1 t =>
            cases hk with
            | p tk =>
              cases tk
              have n2 : ¬ w.I a := W.snd.ri a (List.mem_of_getElem? hn)
              obtain ⟨W', mo⟩ := W.wrS (u := .lst (vs.set j vv)) (m' := .lst (ds.set j v)) es hn em (.lst upd_same (VdL.set (hv.mono (.wr n2)) j (t.mono (.wr n2)))) hno
              exact ⟨a, vs, n, j, rfl, rfl, h1, by rw [← t.len]; exact ej, h _ mo W'⟩
      · cases e
    · cases e
  · cases e
def lsetV (i : Nat) (fk fv : Ev) : Ex := bndS fv fun v => bndS (pk i) fun _ => bndS fk fun k => bndS (pk i) fun q s => match lsetAt q i k v s with
  | some s' => .nx s'
  | none => .bad
theorem ds_lsetV {i : Nat} (hk : DE X G key fk) (hv : DE X G value fv) (hN : X.N[i]? = some x := by rfl) (hvi : Vis X.env.scope x := by first | exact Or.inl rfl | exact Or.inr (Or.inl rfl) | exact Or.inr (Or.inr rfl))
    (hd : (x == ("__debug__" : Str)) = false := by decide) (hcd : (x == ("__classdict__" : Str)) = false := by decide)
    (ha : ∀ v, assign (.Subscript (.Name x px) key pos') X.env v = (do
      let ov ← holding [v] (eval (.Name x px) X.env)
      let iv ← holding [v, ov] (eval key X.env)
      standAt pos'
      holding [v, ov, iv] (setItem ov iv v)
      release [v, ov, iv] []) := by intro _; rfl)
    (hs : swapsWithSole [.Subscript (.Name x px) key pos'] value pos.line X.env = pure false := by rfl) (hw : swappedStores [.Subscript (.Name x px) key pos'] value X.env = pure none := by rfl)
    (h1 : (assignEach [.Subscript (.Name x px) key pos'] X.env).map (·.2) = [assign (.Subscript (.Name x px) key pos') X.env] := by rfl) : DS X G (.Assign [.Subscript (.Name x px) key pos'] value pos) (lsetV i fk fv) :=
  PSi (ps_asg hv (pg_sub (pe_var (i := i) hN hvi hd hcd) hk set_list ha) hs hw h1) fun D σ H ⟨w, s, W, h⟩ => ⟨w, s, W, PostS.bind h fun v s1 vv w1 H1 m1 W1 r1 h => by
    obtain ⟨q0, v0, ev, _, _, h⟩ := pkS W1 h
    refine ⟨v0, ev, w1, s1, W1, PostS.bind h fun k s2 vk w2 H2 m2 W2 r2 h => ?_⟩
    obtain ⟨q, v1, ev1, rq, hl, h⟩ := pkS W2 h
    rw [ev] at ev1
    cases ev1
    split at h
    · rename_i s3 es
      exact lset_at W2 ev hl rq r2 (Vd.mono m2 r1) es fun H' mo W' => h σ w2 H' mo W'
    · exact h.elim⟩
end
end Dz
namespace Dz
open PySem PySem.Spec PyProof.Rows L2
section
variable {X : Cx} {G : Env} {σ σ' σb : L2.St} {w w1 w' wb e1 : Wo} {H H1 H' Hb E1 : Hp} {s s1 s' : Sta} {K : PySem.W.Frag} {mg : Str → Option Value} {B : Ba}
variable {a b c e o elt tg iter tg1 iter1 : Expr} {es ifs ifs1 : List Expr} {f g h fe : Ev} {pos p2 p apos cpos spos : Pos} {rest : List Expr} {st : Stmt} {x : Str}
/-! ### list comprehensions with two for -/
theorem it_any {J : It} {n : Nat} {Gs : Hp → Prop} {Y : Nat → Hp → V → Hp → Prop} (w : Walk J n Gs Y) {T : V → Hp → (Hp → Prop) → Prop} {H4 : Hp} {Qd : Hp → Prop} (Pv : Nat → Hp → Prop) (h0 : Pv 0 H4) (hG : ∀ i H, i ≤ n → Pv i H → Gs H)
    (hs : ∀ i x H H', i < n → Pv i H → Y i H x H' → T x H' (Pv (i + 1))) (hd : ∀ H, Pv n H → Qd H) :
    ∃ W : Nat → Nat → Hp → Prop, (∃ m, W 0 m H4) ∧ ∀ i m H, W i m H →
      (J.stop i H ∧ Qd H) ∨ (J.go i H ∧ ∃ Nx : Hp → Prop, (∀ H', Nx H' → ∃ m', m' < m ∧ W (i + 1) m' H') ∧ ∀ x H', J.yld i H x H' → T x H' Nx) := by
  refine ⟨fun i m H => m = n - i ∧ i ≤ n ∧ Pv i H, ⟨n, by simp, Nat.zero_le _, h0⟩, ?_⟩
  rintro i m H ⟨rfl, hi, p⟩
  have q := hG i H hi p
  by_cases hlt : i < n
  · refine .inr ⟨w.goes i H hlt q, Pv (i + 1), fun H' p' => ⟨n - (i + 1), by omega, rfl, hlt, p'⟩, fun x H' y => hs i x H H' hlt p (w.yields i H x H' hlt q y)⟩
  · have e : i = n := by omega
    subst e
    exact .inl ⟨w.stops H q, hd H p⟩
/-- what holds between rounds: the new list at D holds acc -/
structure Hold (X : Cx) (e1 : Wo) (E1 : Hp) (wb : Wo) (Hb : Hp) (D : Addr) (acc : List P) (st : Option (List MO)) (vs : List V) (w : Wo) (H : Hp) : Prop where
  ext : Ext e1 E1 w H
  mono : Mono wb Hb w H
  snd : Sound w H
  sto : StOk X.K X.mg H w st
  at' : H D = some (.lst vs)
  tl : TdL X.K false H w.I acc vs
  nr : D ∉ w.ρ
  ni : ¬ w.I D
theorem Hold.go {D : Addr} {acc : List P} {st st' : Option (List MO)} {vs : List V} (h : Hold X e1 E1 wb Hb D acc st vs w H) (x : Ext w H w' H') (sn : Sound w' H') (so : StOk X.K X.mg H' w' st') : Hold X e1 E1 wb Hb D acc st' vs w' H' where
  ext := h.ext.trans x
  mono := h.mono.trans (x.mono h.snd)
  snd := sn
  sto := so
  at' := x.keep _ _ h.at' h.nr
  tl := h.tl.mono (x.mono h.snd).imm
  nr := fun z => by
    rcases x.newr _ z with z | z
    · exact h.nr z
    · rw [h.at'] at z; cases z
  ni := fun z => by
    rcases x.newi _ z with z | z
    · exact h.ni z
    · rw [h.at'] at z; cases z
theorem Hold.push {D : Addr} {acc : List P} {st : Option (List MO)} {vs : List V} {y : P} {v : V} (h : Hold X e1 E1 wb Hb D acc st vs w H) (nD : E1 D = none) (ty : Td X.K false H w.I y v) : Hold X e1 E1 wb Hb D (acc ++ [y]) st (vs ++ [v]) w (upd H D (.lst (vs ++ [v]))) where
  ext := h.ext.updF nD
  mono := h.mono.trans (.wr h.ni (fun _ z => by rw [h.at'] at z; cases z))
  snd := h.snd.updF
  sto := h.sto.updF h.at' h.nr h.ni
  at' := upd_same
  tl := (h.tl.mono (Mono.wr (u := .lst (vs ++ [v])) h.ni (fun _ z => by rw [h.at'] at z; cases z)).imm).snoc (ty.mono (Mono.wr (u := .lst (vs ++ [v])) h.ni (fun _ z => by rw [h.at'] at z; cases z)).imm)
  nr := h.nr
  ni := h.ni
def PvA (X : Cx) (e1 : Wo) (E1 : Hp) (wb : Wo) (Hb : Hp) (D : Addr) (go : List P → Option (List MO) → Prop) (H : Hp) : Prop := ∃ w acc st vs, Hold X e1 E1 wb Hb D acc st vs w H ∧ go acc st
section
variable {own : List Nat} {t : Tg} {tt : Sta → Res Bool} {gg : TG} {D : Addr} {sl : List Sl} {Y : Nat → Hp → V → Hp → Prop} {r : List P × Option (List MO)}
/-- the beginning of a round -/
theorem rd_start {i : Nat} {ds : List Dz.D} {x : V} {acc : List P} {st : Option (List MO)} {vs : List V} (hsl : ∀ (j : Nat) (d : Dz.D), sl[j]? = some (.v d) → ∃ v, σb[j]? = some (some v) ∧ Vd X.K Hb wb d v) (hl : sl.length ≤ σb.length)
    (hY : ∀ i H0 x H1 w0, i < ds.length → Mono wb Hb w0 H0 → Sound w0 H0 → Y i H0 x H1 → (H1 = H0 ∨ ∃ T o, H0 T = none ∧ H1 = upd H0 T o) ∧ ∀ w1, Mono w0 H0 w1 H1 → (∀ T, H0 T = none → H1 T ≠ none → w1.I T) → ∃ d, ds[i]? = some d ∧ Vd X.K H1 w1 d x)
    (hi : i < ds.length) (h : Hold X e1 E1 wb Hb D acc st vs w H) (y : Y i H x H1) : ∃ w2 d, Wd X.K X.mg ⟨w, H⟩ w2 (wipe σb own) ⟨inSl own sl, st⟩ H1 ∧ Vd X.K H1 w2 d x ∧ ds.drop i = d :: ds.drop (i + 1) := by
  have Wi : Wd X.K X.mg ⟨w, H⟩ w (wipe σb own) ⟨inSl own sl, st⟩ H := in_start h.snd h.sto hl fun j d ej => by
    obtain ⟨v, ev, hv⟩ := hsl j d ej
    exact ⟨v, ev, hv.mono h.mono⟩
  obtain ⟨w2, d, m2, W2, ed, vd⟩ := yield_at (G := G0 w H) (J := Itr 0 0) (Y := Y) Wi (hY i H x H1 w hi h.mono h.snd y)
  refine ⟨w2, d, W2, vd, ?_⟩
  rw [List.drop_eq_getElem_cons hi]
  rw [List.getElem?_eq_getElem hi] at ed
  rw [Option.some.inj ed]
/-- a round -/
theorem lc_turn {ds : List Dz.D} {fe : Ev} (hr : RawG X own gg t) (nD : E1 D = none) (hsl : ∀ (j : Nat) (d : Dz.D), sl[j]? = some (.v d) → ∃ v, σb[j]? = some (some v) ∧ Vd X.K Hb wb d v) (hl : sl.length ≤ σb.length)
    (hY : ∀ i H0 x H1 w0, i < ds.length → Mono wb Hb w0 H0 → Sound w0 H0 → Y i H0 x H1 → (H1 = H0 ∨ ∃ T o, H0 T = none ∧ H1 = upd H0 T o) ∧ ∀ w1, Mono w0 H0 w1 H1 → (∀ T, H0 T = none → H1 T ≠ none → w1.I T) → ∃ d, ds[i]? = some d ∧ Vd X.K H1 w1 d x)
    (i : Nat) (x : V) (H H3 : Hp) (hi : i < ds.length) (hp : PvA X e1 E1 wb Hb D (fun acc st => lcGo (inSl own sl) t tt fe (ds.drop i) acc st = some r) H) (y : Y i H x H3) :
    gg x (wipe σb own) H3 fun σ2 H2 => wipe σ2 own = wipe σb own ∧ tT0 X tt σ2 H2 fun b H3 =>
      if b = true then tE0 X fe σ2 H3 fun y H4 => ∃ acc, H4 D = some (.lst acc) ∧ acc.length < sizeLine ∧ PvA X e1 E1 wb Hb D (fun acc st => lcGo (inSl own sl) t tt fe (ds.drop (i + 1)) acc st = some r) (upd H4 D (.lst (acc ++ [y])))
      else PvA X e1 E1 wb Hb D (fun acc st => lcGo (inSl own sl) t tt fe (ds.drop (i + 1)) acc st = some r) H3 := by
  obtain ⟨wi, acc, st, vs, ho, go⟩ := hp
  obtain ⟨w2, d, W2, vd, ed⟩ := rd_start (own := own) hsl hl hY hi ho y
  rw [ed, lcGo] at go
  cases et : t d ⟨inSl own sl, st⟩ with
  | none => simp only [et] at go; cases go
  | some s1 =>
    simp only [et] at go
    refine hr _ _ _ _ _ _ _ _ _ W2 vd et fun σ3 hw3 W3 => ⟨hw3.trans wipe_wipe, wi, H, w2, s1, W3, ?_⟩
    cases ett : tt s1 with
    | bad => simp only [ett] at go; cases go
    | ex c fs => simp only [ett] at go; cases go
    | ok k s2 =>
      simp only [ett] at go
      intro k' w4 H4 m4 W4 rk
      cases (show k = k' from rk)
      cases k with
      | false =>
        simp only at go
        rw [if_neg Bool.false_ne_true]
        exact ⟨w4, acc, s2.st, vs, ho.go W4.ext W4.snd W4.sto, go⟩
      | true =>
        simp only at go
        rw [if_pos rfl]
        refine ⟨wi, H, w4, s2, W4, ?_⟩
        cases ee : fe s2 with
        | bad => rw [ee] at go; cases go
        | ex c fs => rw [ee] at go; cases go
        | ok y s3 =>
          rw [ee] at go
          cases y with
          | p yp =>
            simp only at go
            split at go
            · rename_i hz
              intro v w5 H5 m5 W5 rv
              have h5 := ho.go W5.ext W5.snd W5.sto
              cases (show Vd X.K H5 w5 (.p yp) v from rv) with
              | p ty => exact ⟨vs, h5.at', by rw [← ho.tl.len]; exact hz, w5, acc ++ [yp], s3.st, vs ++ [v], h5.push nD ty, go⟩
            · cases go
          | _ => cases go
end
/-- one round of the outer for after the other -/
def lcGo2 (sl : List Sl) (t : Tg) (tt : Sta → Res Bool) (fi1 : Sta → Res (List D)) (own1 : List Nat) (t1 : Tg) (tt1 : Sta → Res Bool) (fe : Ev) : List D → List P → Option (List MO) → Option (List P × Option (List MO))
  | [], acc, st => some (acc, st)
  | d :: ds, acc, st => match t d ⟨sl, st⟩ with
    | some s1 => match tt s1 with
      | .ok true s2 => match fi1 s2 with
        | .ok ds1 s3 => match lcGo (inSl own1 s3.sl) t1 tt1 fe ds1 acc s3.st with
          | some (acc', st') => lcGo2 sl t tt fi1 own1 t1 tt1 fe ds acc' st'
          | none => none
        | _ => none
      | .ok false s2 => lcGo2 sl t tt fi1 own1 t1 tt1 fe ds acc s2.st
      | _ => none
    | none => none
def lcF2 (fi : Sta → Res (List D)) (own : List Nat) (t : Tg) (tt : Sta → Res Bool) (fi1 : Sta → Res (List D)) (own1 : List Nat) (t1 : Tg) (tt1 : Sta → Res Bool) (fe : Ev) : Sta → Res Lin := bnd fi fun ds s => match lcGo2 (inSl own s.sl) t tt fi1 own1 t1 tt1 fe ds [] s.st with
  | some (xs, st) => .ok (.lst xs) ⟨s.sl, st⟩
  | none => .bad
def tI0 (X : Cx) (f : Sta → Res (List D)) : TI := fun σ H R => ∃ w0 H0, tI X (G0 w0 H0) f σ H R
theorem lc2_read {own own1 : List Nat} {fi fi1 : Sta → Res (List D)} {t t1 : Tg} {tt tt1 : Sta → Res Bool} {gg gg1 : TG} (hr : RawG X own gg t) (hr1 : RawG X own1 gg1 t1) {Q : VK} (h0 : tF X G (lcF2 fi own t tt fi1 own1 t1 tt1 fe) σ H Q) :
    tLc2 (tI X G fi) gg (tT0 X tt) (tI0 X fi1) gg1 (tT0 X tt1) (tE0 X fe) own own1 σ H Q := by
  obtain ⟨w, s, W, h⟩ := h0
  refine ⟨w, s, W, ?_⟩
  unfold lcF2 bnd at h
  cases ef : fi s with
  | bad => rw [ef] at h; exact h.elim
  | ex c fs => rw [ef] at h; exact h
  | ok ds s' =>
    rw [ef] at h
    simp only at h
    intro w1 H1 J m1 W1 wk D nD
    have h := PostF.at m1 h
    cases el : lcGo2 (inSl own s'.sl) t tt fi1 own1 t1 tt1 fe ds [] s'.st with
    | none => rw [el] at h; exact h.elim
    | some r =>
      obtain ⟨xs, stE⟩ := r
      rw [el] at h
      obtain ⟨Gs, Y, wlk, hG, hY⟩ := wk
      have b0 := W1.bare (o := .lst []) nD
      have x0 : Ext w1 H1 w1 (upd H1 D (.lst [])) := Ext.refl.updF nD
      refine it_any wlk (fun i H => PvA X w1 H1 w1 H1 D (fun acc st => lcGo2 (inSl own s'.sl) t tt fi1 own1 t1 tt1 fe (ds.drop i) acc st = some (xs, stE)) H)
        ⟨w1, [], s'.st, [], ⟨x0, x0.mono W1.snd, b0.2.1.snd, b0.2.1.sto, upd_same, .nil, b0.2.2.1, b0.2.2.2.1⟩, by rw [List.drop_zero]; exact el⟩ (fun i H _ ⟨wi, _, _, _, x, _⟩ => hG wi H x.mono) ?_ ?_
      · intro i x H2 H3 hi hp y
        obtain ⟨wi, acc, st, vs, ho, go⟩ := hp
        obtain ⟨w2, d, W2, vd, ed⟩ := rd_start (own := own) (fun j d ej => W1.sl j _ ej) W1.len hY hi ho y
        rw [ed, lcGo2] at go
        cases et : t d ⟨inSl own s'.sl, st⟩ with
        | none => simp only [et] at go; cases go
        | some s1 =>
          simp only [et] at go
          refine hr _ _ _ _ _ _ _ _ _ W2 vd et fun σ3 hw3 W3 => ⟨hw3.trans wipe_wipe, wi, H2, w2, s1, W3, ?_⟩
          cases ett : tt s1 with
          | bad => simp only [ett] at go; cases go
          | ex c fs => simp only [ett] at go; cases go
          | ok k s2 =>
            simp only [ett] at go
            intro k' w4 H4 m4 W4 rk
            cases (show k = k' from rk)
            cases k with
            | false =>
              simp only at go
              rw [if_neg Bool.false_ne_true]
              exact ⟨w4, acc, s2.st, vs, ho.go W4.ext W4.snd W4.sto, go⟩
            | true =>
              simp only at go
              rw [if_pos rfl]
              refine ⟨wi, H2, w4, s2, W4, ?_⟩
              cases e1 : fi1 s2 with
              | bad => rw [e1] at go; cases go
              | ex c fs => rw [e1] at go; cases go
              | ok ds1 s3 =>
                rw [e1] at go
                simp only at go
                cases eg : lcGo (inSl own1 s3.sl) t1 tt1 fe ds1 acc s3.st with
                | none => rw [eg] at go; cases go
                | some r1 =>
                  obtain ⟨acc1, st1⟩ := r1
                  rw [eg] at go
                  simp only at go
                  intro w5 H5 J1 m5 W5 wk1
                  obtain ⟨Gs1, Y1, wlk1, hG1, hY1⟩ := wk1
                  have h5 := ho.go W5.ext W5.snd W5.sto
                  refine it_any wlk1 (fun j H => PvA X w1 H1 w5 H5 D (fun a s => lcGo (inSl own1 s3.sl) t1 tt1 fe (ds1.drop j) a s = some (acc1, st1)) H)
                    ⟨w5, acc, s3.st, vs, ⟨h5.ext, .refl, h5.snd, h5.sto, h5.at', h5.tl, h5.nr, h5.ni⟩, by rw [List.drop_zero]; exact eg⟩ (fun i H _ ⟨wi, _, _, _, x, _⟩ => hG1 wi H x.mono) ?_ ?_
                  · exact lc_turn hr1 nD (fun j d ej => W5.sl j _ ej) W5.len hY1
                  · rintro H6 ⟨w6, a6, s6, v6, h6, g6⟩
                    rw [List.drop_length, lcGo] at g6
                    cases g6
                    exact ⟨w6, _, _, v6, ⟨h6.ext, h6.ext.mono W1.snd, h6.snd, h6.sto, h6.at', h6.tl, h6.nr, h6.ni⟩, go⟩
      · rintro H2 ⟨wi, acc, st, vs, ho, go⟩
        rw [List.drop_length, lcGo2] at go
        cases go
        exact h D wi H2 (ho.ext.mono W1.snd) (W1.step ho.ext ho.snd ho.sto) (.lst ho.at' ho.tl) ho.nr ho.ni (W1.ext.there D nD) fun j hj z => by
          obtain ⟨a, _, e1, h1, _⟩ := W1.linAddr hj
          rw [e1] at z
          cases z
          exact h1.there nD
section
variable {scope : Scope} {own : List (Str × Nat)} {own1 : List Nat} {fi fi1 : Sta → Res (List D)} {t t1 : Tg} {tt tt1 : Sta → Res Bool} {gg gg1 : TG}
theorem df_lc2 (hc : X.calm = true) (hN : X.N.Nodup) (hi : DI X G tg iter fi) (ok : BlkOk X.N X.env.scope scope own) (hv : ∀ i ∈ own1, i ∈ own.map (·.2))
    (hg : ∀ (s : Shared) (H : Hp) (C : Addr) (cl : List (Str × Addr)) (fp : List Addr), PG (X.blk s H scope (compEnvC scope cl C X.env) fp) tg gg) (hr : RawG X (own.map (·.2)) gg t)
    (ht : ∀ (s : Shared) (H : Hp) (C : Addr) (cl : List (Str × Addr)) (fp : List Addr) (G' : Env), G'.E = E0 → DTs (X.blk s H scope (compEnvC scope cl C X.env) fp) G' ifs tt)
    (hi1 : ∀ (s : Shared) (H : Hp) (C : Addr) (cl : List (Str × Addr)) (fp : List Addr) (G' : Env), G'.E = E0 → DI (X.blk s H scope (compEnvC scope cl C X.env) fp) G' tg1 iter1 fi1)
    (hg1 : ∀ (s : Shared) (H : Hp) (C : Addr) (cl : List (Str × Addr)) (fp : List Addr), PG (X.blk s H scope (compEnvC scope cl C X.env) fp) tg1 gg1) (hr1 : RawG X own1 gg1 t1)
    (ht1 : ∀ (s : Shared) (H : Hp) (C : Addr) (cl : List (Str × Addr)) (fp : List Addr) (G' : Env), G'.E = E0 → DTs (X.blk s H scope (compEnvC scope cl C X.env) fp) G' ifs1 tt1)
    (he : ∀ (s : Shared) (H : Hp) (C : Addr) (cl : List (Str × Addr)) (fp : List Addr) (G' : Env), G'.E = E0 → DE (X.blk s H scope (compEnvC scope cl C X.env) fp) G' elt fe)
    (hs : ∀ x, foldedSetIterable iter X.env x = pure x := by intro _; rfl) (hs1 : ∀ env x, foldedSetIterable iter1 env x = pure x := by intro _ _; rfl) : DF X G (.ListComp elt [⟨tg, iter, ifs, 0⟩, ⟨tg1, iter1, ifs1, 0⟩] scope pos) (lcF2 fi (own.map (·.2)) t tt fi1 own1 t1 tt1 fe) :=
  PEi (pe_lc2 (g := gg) (g1 := gg1) (tt := tT0 X tt) (tt1 := tT0 X tt1) (wi1 := tI0 X fi1) (te := tE0 X fe) hc hN hi ok hv hg (fun s H C cl fp => ⟨fun pins s1 σ1 H1 Q I ⟨w0, H0, q⟩ => (ht s H C cl fp (G0 w0 H0) rfl).run pins s1 σ1 H1 Q I q⟩)
    (fun s H C cl fp => ⟨fun pins s1 σ1 H1 Q I ⟨w0, H0, q⟩ => (hi1 s H C cl fp (G0 w0 H0) rfl).run pins s1 σ1 H1 Q I q⟩) hg1 (fun s H C cl fp => ⟨fun pins s1 σ1 H1 Q I ⟨w0, H0, q⟩ => (ht1 s H C cl fp (G0 w0 H0) rfl).run pins s1 σ1 H1 Q I q⟩)
    (fun s H C cl fp => ⟨fun pins s1 σ1 H1 Q I ⟨w0, H0, q⟩ => (he s H C cl fp (G0 w0 H0) rfl).run pins s1 σ1 H1 Q I q⟩) hs hs1) fun σ H Q h => lc2_read hr hr1 h
theorem ds_setLc2 {i : Nat} {y : Str} {py : Pos} (hc : X.calm = true) (hN : X.N.Nodup) (hy : X.N[i]? = some y) (hyl : X.env.scope.names.lookup y = some .local)
    (hsw : swapsWith (.ListComp elt [⟨tg, iter, ifs, 0⟩, ⟨tg1, iter1, ifs1, 0⟩] scope pos) (some (.Name y py)) spos.line X.env = pure true) (hi : DI X G tg iter fi) (ok : BlkOk X.N X.env.scope scope own) (hv : ∀ i ∈ own1, i ∈ own.map (·.2))
    (hg : ∀ (s : Shared) (H : Hp) (C : Addr) (cl : List (Str × Addr)) (fp : List Addr), PG (X.blk s H scope (compEnvC scope cl C X.env) fp) tg gg) (hr : RawG X (own.map (·.2)) gg t)
    (ht : ∀ (s : Shared) (H : Hp) (C : Addr) (cl : List (Str × Addr)) (fp : List Addr) (G' : Env), G'.E = E0 → DTs (X.blk s H scope (compEnvC scope cl C X.env) fp) G' ifs tt)
    (hi1 : ∀ (s : Shared) (H : Hp) (C : Addr) (cl : List (Str × Addr)) (fp : List Addr) (G' : Env), G'.E = E0 → DI (X.blk s H scope (compEnvC scope cl C X.env) fp) G' tg1 iter1 fi1)
    (hg1 : ∀ (s : Shared) (H : Hp) (C : Addr) (cl : List (Str × Addr)) (fp : List Addr), PG (X.blk s H scope (compEnvC scope cl C X.env) fp) tg1 gg1) (hr1 : RawG X own1 gg1 t1)
    (ht1 : ∀ (s : Shared) (H : Hp) (C : Addr) (cl : List (Str × Addr)) (fp : List Addr) (G' : Env), G'.E = E0 → DTs (X.blk s H scope (compEnvC scope cl C X.env) fp) G' ifs1 tt1)
    (he : ∀ (s : Shared) (H : Hp) (C : Addr) (cl : List (Str × Addr)) (fp : List Addr) (G' : Env), G'.E = E0 → DE (X.blk s H scope (compEnvC scope cl C X.env) fp) G' elt fe)
    (hs : ∀ x, foldedSetIterable iter X.env x = pure x := by intro _; rfl) (hs1 : ∀ env x, foldedSetIterable iter1 env x = pure x := by intro _ _; rfl) : DS X G (.Assign [.Name y py] (.ListComp elt [⟨tg, iter, ifs, 0⟩, ⟨tg1, iter1, ifs1, 0⟩] scope pos) spos) (bndS (lcF2 fi (own.map (·.2)) t tt fi1 own1 t1 tt1 fe) (setL i)) :=
  PSi (ps_setLc2 (g := gg) (g1 := gg1) (tt := tT0 X tt) (tt1 := tT0 X tt1) (wi1 := tI0 X fi1) (te := tE0 X fe) hc hN hy hyl hsw hi ok hv hg (fun s H C cl fp => ⟨fun pins s1 σ1 H1 Q I ⟨w0, H0, q⟩ => (ht s H C cl fp (G0 w0 H0) rfl).run pins s1 σ1 H1 Q I q⟩)
    (fun s H C cl fp => ⟨fun pins s1 σ1 H1 Q I ⟨w0, H0, q⟩ => (hi1 s H C cl fp (G0 w0 H0) rfl).run pins s1 σ1 H1 Q I q⟩) hg1 (fun s H C cl fp => ⟨fun pins s1 σ1 H1 Q I ⟨w0, H0, q⟩ => (ht1 s H C cl fp (G0 w0 H0) rfl).run pins s1 σ1 H1 Q I q⟩)
    (fun s H C cl fp => ⟨fun pins s1 σ1 H1 Q I ⟨w0, H0, q⟩ => (he s H C cl fp (G0 w0 H0) rfl).run pins s1 σ1 H1 Q I q⟩) hs hs1)
    fun D σ H ⟨w, s, W, h⟩ => lc2_read hr hr1 (tF_bind W h fun m s1 a w1 H1 mo W1 l n1 n2 n3 n4 h1 => h1 _ w1 H1 .refl (W1.setl l n1 n2 n3 n4))
end
end
end Dz
namespace Dz
open PySem PySem.Spec PyProof.Rows L2
section
variable {X : Cx} {G : Env} {σ σ' : L2.St} {w w1 w' : Wo} {H H1 H' : Hp} {s s1 s' : Sta} {K : PySem.W.Frag} {mg : Str → Option Value} {B : Ba}
variable {a b c e o : Expr} {es : List Expr} {f g h : Ev} {pos p2 p apos cpos spos : Pos} {st : Stmt} {x : Str}
/-! ### e.append(d), e any expression: a list of the store -/
def appE (f g : Ev) : Ex := bndS f fun d0 s => if isLst (.d d0) s = true ∧ (seqPk (.d d0) s).isSome = true then bndS g (fun d s => match d0 with
  | .loc n => match appAt (.d (.loc n)) 0 d s with
    | some s' => .nx s'
    | none => .bad
  | _ => .bad) s else .bad
theorem ds_appE (ha : DE X G a f) (hb : DE X G e g)
    (hbase : attributeBase a "append" X.env (eval a X.env) = eval a X.env := by rfl)
    (hfew : ((backTo cpos (starEach [e] X.env)).all (fun x => !x.1) && (backToKw cpos (keywordEach [] X.env)).all (fun x => x.1.isSome) && decide ([e].length + ([] : List Keyword).length + (if ([] : List Keyword).isEmpty then 0 else 1) < 30)) = true := by rfl)
    (hline : (apos.endLine == cpos.line) = true := by rfl) (h1 : starEach [e] X.env = (false, eval e X.env) :: starEach [] X.env := by rfl) (hplain : (backTo cpos (starEach [] X.env)).any (·.1) = false := by rfl)
    (hs : swapsWith (.Call (.Attribute a "append" apos) [e] [] cpos) none pos.line X.env = pure false := by rfl) : DS X G (.Expr (.Call (.Attribute a "append" apos) [e] [] cpos) pos) (appE f g) :=
  PSi (ps_expr (pe_bm PySem.F.plainAttrs_list PySem.F.slot_list_append PySem.F.type_list_append mt_append ha (pa_cons hb pa_nil h1) hbase hfew hline h1 hplain) hs) fun D σ H ⟨w, s, W, h⟩ => by
    refine ⟨w, s, W, PostS.bind h fun d0 s1 v0 w1 H1 m1 W1 r0 h => ?_⟩
    split at h
    · rename_i hl
      obtain ⟨ds, eds⟩ := Option.isSome_iff_exists.mp hl.2
      refine ⟨tyL_at W1 (k := .d d0) r0 hl.1 ds eds, w1, s1, W1, PostS.bind h fun d s2 u w2 H2 m2 W2 r1 h => ?_⟩
      split at h
      · rename_i n
        split at h
        · rename_i s3 ea
          exact app_st (Q := fun _ H' => D.nx σ H') W2 (Vd.mono m2 r0) r1 ea fun H' mo W' => h σ w2 H' mo W'
        · exact h.elim
      · exact h.elim
    · exact h.elim
end
end Dz
namespace Dz
open PySem PySem.Spec PyProof.Rows L2
section
variable {X : Cx} {G : Env} {σ σ' : L2.St} {w w1 w' : Wo} {H H1 H' : Hp} {s s1 s' : Sta} {K : PySem.W.Frag} {mg : Str → Option Value} {B : Ba} {I : Addr → Prop} {q : Bool} {a : Addr}
/-! ### a dict is locked while it is walked -/
/-- only the dict at a is locked or unlocked -/
structure Lk (H H' : Hp) (a : Addr) : Prop where
  ne : ∀ b, b ≠ a → H' b = H b
  dk : ∀ vs, Rd H a (.dK vs) → Rd H' a (.dK vs)
  dt : ∀ vs, Rd H a (.dT vs) → Rd H' a (.dT vs)
  nl : ∀ xs, H a ≠ some (.lst xs)
  nt : ∀ xs, H a ≠ some (.tup xs)
  nf : ∀ o xs, H a ≠ some (.frz o (.lst xs))
  no : ∀ c, H a ≠ some (.own c)
theorem Lk.at' (L : Lk H H' a) {b : Addr} {o : HO} (e : H b = some o) (n : b ≠ a) : H' b = some o := by rw [L.ne b n]; exact e
theorem Lk.rd (L : Lk H H' a) {b : Addr} {vs : List (Key × V)} (e : Rd H b (.dK vs)) : Rd H' b (.dK vs) := by
  by_cases h : b = a
  · subst h; exact L.dk vs e
  · unfold Rd; rw [L.ne b h]; exact e
theorem Lk.rdT (L : Lk H H' a) {b : Addr} {vs : List (List Key × V)} (e : Rd H b (.dT vs)) : Rd H' b (.dT vs) := by
  by_cases h : b = a
  · subst h; exact L.dt vs e
  · unfold Rd; rw [L.ne b h]; exact e
mutual
theorem Td.lk (L : Lk H H' a) : ∀ {x : P} {v : V}, Td K q H I x v → Td K q H' I x v
  | .non, _, h => by cases h; exact .non
  | .bl _, _, h => by cases h; exact .bl _
  | .int _, _, h => by cases h; exact .int _
  | .str _, _, h => by cases h; exact .str _
  | .lst xs, _, h => by
    cases h with
    | lst h1 h2 h3 => exact .lst (L.at' h1 fun z => by subst z; exact L.nl _ h1) h2 (TdL.lk L h3)
  | .tup xs, _, h => by
    cases h with
    | tup h1 h3 => exact .tup (L.at' h1 fun z => by subst z; exact L.nt _ h1) (TdL.lk L h3)
    | tupK hq h1 h3 => exact .tupK hq h1 (TdL.lk L h3)
theorem TdL.lk (L : Lk H H' a) : ∀ {xs : List P} {vs : List V}, TdL K q H I xs vs → TdL K q H' I xs vs
  | [], _, h => by cases h; exact .nil
  | _ :: _, _, h => by
    cases h with
    | cons h1 h2 => exact .cons (Td.lk L h1) (TdL.lk L h2)
end
theorem TdK.lk {κ : Type} (L : Lk H H' a) {xs : List (κ × P)} {vs : List (κ × V)} (h : TdK K q H I xs vs) : TdK K q H' I xs vs := by
  induction h with
  | nil => exact .nil
  | cons h1 _ ih => exact .cons (h1.lk L) ih
theorem Vd.lk (L : Lk H H' a) {x : D} {v : V} (h : Vd K H w x v) : Vd K H' w x v := by
  cases h with
  | p h => exact .p (h.lk L)
  | kt h1 h2 => exact .kt h1 h2
  | fz h1 h3 => exact .fz (by
    rcases h1 with ⟨ob, h1, i⟩ | h1
    · exact .inl ⟨ob, L.at' h1 fun z => by subst z; exact L.nf _ _ h1, i⟩
    · exact .inr h1) (h3.lk L)
  | loc h => exact .loc h
  | dic h1 h2 h3 => exact .dic (L.rd h1) h2 (h3.lk L)
  | dct h1 h2 h3 => exact .dct (L.rdT h1) h2 (h3.lk L)
theorem VdL.lk (L : Lk H H' a) {xs : List D} {vs : List V} (h : VdL K H w xs vs) : VdL K H' w xs vs := by
  induction h with
  | nil => exact .nil
  | cons h1 _ ih => exact .cons (h1.lk L) ih
theorem VdK.lk {κ : Type} (L : Lk H H' a) {xs : List (κ × D)} {vs : List (κ × V)} (h : VdK K H w xs vs) : VdK K H' w xs vs := by
  induction h with
  | nil => exact .nil
  | cons h1 _ ih => exact .cons (h1.lk L) ih
theorem MOk.lk (L : Lk H H' a) {b : Addr} {m : MO} (n : b ≠ a) (h : MOk K mg H w b m) : MOk K mg H' w b m := by
  cases h with
  | lst h t => exact .lst (L.at' h n) (t.lk L)
  | tup h t => exact .tup (L.at' h n) (t.lk L)
  | dic h t => exact .dic (L.at' h n) (t.lk L)
  | dct h t => exact .dct (L.at' h n) (t.lk L)
  | ins g h o t => exact .ins g (L.at' h n) (L.at' o fun z => by subst z; exact L.no _ o) (t.lk L)
theorem LOk.lk (L : Lk H H' a) {b : Addr} {m : Lin} (n : b ≠ a) (h : LOk K H I b m) : LOk K H' I b m := by
  cases h with
  | lst h t => exact .lst (L.at' h n) (t.lk L)
  | dic h t => exact .dic (L.at' h n) (t.lk L)
  | dct h t => exact .dct (L.at' h n) (t.lk L)
theorem StOk.lk (L : Lk H H' a) {S : Option (List MO)} (n : a ∉ w.ρ) (h : StOk K mg H w S) : StOk K mg H' w S := by
  cases S with
  | none => trivial
  | some S => exact ⟨h.1, fun k b m e1 e2 => (h.2 k b m e1 e2).lk L fun z => n (by rw [← z]; exact List.mem_of_getElem? e1)⟩
/-- a dict -/
def isDict (u : HO) : Prop := (∃ vs, u = .dK vs) ∨ ∃ vs, u = .dT vs
theorem lk_lock {u : HO} {od : Obj} (hd : H a = some u) (du : isDict u) : Lk H (upd H a (.frz od u)) a := by
  refine ⟨fun b n => upd_ne n, fun vs r => ?_, fun vs r => ?_, fun xs z => ?_, fun xs z => ?_, fun o xs z => ?_, fun c z => ?_⟩
  · rcases r with r | ⟨o, r⟩
    · rw [hd] at r; cases r; exact .inr ⟨od, upd_same⟩
    · rw [hd] at r; cases r; rcases du with ⟨_, z⟩ | ⟨_, z⟩ <;> cases z
  · rcases r with r | ⟨o, r⟩
    · rw [hd] at r; cases r; exact .inr ⟨od, upd_same⟩
    · rw [hd] at r; cases r; rcases du with ⟨_, z⟩ | ⟨_, z⟩ <;> cases z
  all_goals rw [hd] at z; cases z; rcases du with ⟨_, z⟩ | ⟨_, z⟩ <;> cases z
theorem lk_unlock {u : HO} {od : Obj} (hd : H a = some (.frz od u)) (du : isDict u) : Lk H (upd H a u) a := by
  refine ⟨fun b n => upd_ne n, fun vs r => ?_, fun vs r => ?_, fun xs z => ?_, fun xs z => ?_, fun o xs z => ?_, fun c z => ?_⟩
  · rcases r with r | ⟨o, r⟩
    · rw [hd] at r; cases r
    · rw [hd] at r; cases r; exact .inl upd_same
  · rcases r with r | ⟨o, r⟩
    · rw [hd] at r; cases r
    · rw [hd] at r; cases r; exact .inl upd_same
  · rw [hd] at z; cases z
  · rw [hd] at z; cases z
  · rw [hd] at z; cases z; rcases du with ⟨_, z⟩ | ⟨_, z⟩ <;> cases z
  · rw [hd] at z; cases z
/-- the entry, as it is seen from within -/
def Ba.lk (B : Ba) (a : Addr) (o : HO) : Ba := ⟨⟨B.w.ρ, fun b => B.w.I b ∨ b = a⟩, upd B.H a o⟩
theorem upd_none {o : HO} {b : Addr} (h : upd H a o b = none) : b ≠ a ∧ H b = none := by
  by_cases n : b = a
  · subst n; rw [upd_same] at h; cases h
  · rw [upd_ne n] at h; exact ⟨n, h⟩
theorem Sound.upd' {o : HO} (S : Sound w H) : Sound w (upd H a o) := S.updF
theorem Wd.lock {u : HO} {od : Obj} (W : Wd K mg B w σ s H) (ia : w.I a) (hd : H a = some u) (du : isDict u) : Wd K mg (B.lk a (.frz od u)) w σ s (upd H a (.frz od u)) := by
  have L := lk_lock (od := od) hd du
  have na : a ∉ w.ρ := fun z => W.snd.ri a z ia
  have nb : a ∉ B.w.ρ := fun z => by
    obtain ⟨n, hn⟩ := List.mem_iff_getElem?.mp z
    exact na (List.mem_of_getElem? (W.ext.pre n a hn))
  refine ⟨⟨fun b o e n => ?_, W.ext.pre, fun b h => ?_, fun b h => ?_, fun b h => ?_, fun b h => ?_, fun b xs e => ?_⟩, W.snd.updF, ⟨W.sb.nd, fun b h z => ?_, fun b h z => ?_, fun b h z => ?_⟩, W.sto.lk L na, fun i x e => ?_, W.len, W.two⟩
  · by_cases h : b = a
    · subst h
      have e : upd B.H b (.frz od u) b = some o := e
      rw [upd_same] at e ⊢; exact e
    · have e : upd B.H a (.frz od u) b = some o := e
      rw [upd_ne h] at e ⊢; exact W.ext.keep b o e n
  · rcases W.ext.newr b h with z | z
    · exact .inl z
    · exact .inr (by show upd B.H a _ b = none; rw [upd_ne (fun y => na (by rw [← y]; exact h))]; exact z)
  · rcases h with h | rfl
    · exact W.ext.imm b h
    · exact ia
  · by_cases n : b = a
    · exact .inl (.inr n)
    · rcases W.ext.newi b h with z | z
      · exact .inl (.inl z)
      · exact .inr (by show upd B.H a _ b = none; rw [upd_ne n]; exact z)
  · obtain ⟨n, z⟩ := upd_none h
    show upd B.H a _ b = none
    rw [upd_ne n]; exact W.ext.there b z
  · have e : upd B.H a (.frz od u) b = some (.tup xs) := e
    by_cases n : b = a
    · subst n; rw [upd_same] at e; cases e
    · rw [upd_ne n] at e ⊢; exact W.ext.tup b xs e
  · obtain ⟨_, z⟩ := upd_none (show upd B.H a _ b = none from z)
    exact W.sb.rt b h z
  · rcases z with z | rfl
    · exact W.sb.ri b h z
    · exact nb h
  · obtain ⟨n, z⟩ := upd_none (show upd B.H a _ b = none from z)
    rcases h with h | h
    · exact W.sb.it b h z
    · exact n h
  · have h := W.sl i x e
    cases x with
    | un => trivial
    | v d => obtain ⟨v, e1, h1⟩ := h; exact ⟨v, e1, h1.lk L⟩
    | lin l =>
      obtain ⟨b, e1, h1, h2, h3, h4⟩ := h
      have n : b ≠ a := fun z => h3 (by rw [z]; exact ia)
      exact ⟨b, e1, h1.lk L n, h2, h3, by show upd B.H a _ b = none; rw [upd_ne n]; exact h4⟩
/-- the lock stands at the end -/
theorem ext_locked {o : HO} (nb : a ∉ B.w.ρ) (x : Ext (B.lk a o).w (B.lk a o).H w' H') : H' a = some o ∧ w'.I a := ⟨x.keep a o upd_same nb, x.imm a (.inr rfl)⟩
theorem ext_unlock {u : HO} {od : Obj} (W : Wd K mg B w σ s H) (ia : w.I a) (hd : H a = some u) (du : isDict u) (x : Ext (B.lk a (.frz od u)).w (B.lk a (.frz od u)).H w' H') : Ext B.w B.H w' (upd H' a u) := by
  refine ⟨fun b o e n => ?_, x.pre, fun b h => ?_, fun b h => x.imm b (.inl h), fun b h => ?_, fun b h => ?_, fun b xs e => ?_⟩
  · by_cases h : b = a
    · subst h
      have := W.ext.keep b o e n
      rw [hd] at this
      rw [upd_same]; exact this
    · rw [upd_ne h]
      exact x.keep b o (by show upd B.H a _ b = some o; rw [upd_ne h]; exact e) n
  · rcases x.newr b h with z | z
    · exact .inl z
    · exact .inr (upd_none (show upd B.H a _ b = none from z)).2
  · by_cases n : b = a
    · subst n; exact W.ext.newi b ia
    · rcases x.newi b h with z | z
      · rcases z with z | z
        · exact .inl z
        · exact absurd z n
      · exact .inr (upd_none (show upd B.H a _ b = none from z)).2
  · obtain ⟨n, z⟩ := upd_none h
    exact (upd_none (show upd B.H a _ b = none from x.there b z)).2
  · have n : b ≠ a := fun z => by
      subst z
      have := W.ext.tup b xs e
      rw [hd] at this
      cases this
      rcases du with ⟨_, z⟩ | ⟨_, z⟩ <;> cases z
    rw [upd_ne n]
    exact x.tup b xs (by show upd B.H a _ b = _; rw [upd_ne n]; exact e)
theorem Wd.unlock {u : HO} {od : Obj} {σ2 : L2.St} {s2 : Sta} (W : Wd K mg B w σ s H) (ia : w.I a) (hd : H a = some u) (du : isDict u) (W' : Wd K mg (B.lk a (.frz od u)) w' σ2 s2 H') : Wd K mg B w' σ2 s2 (upd H' a u) ∧ H' a = some (.frz od u) ∧ Ext B.w B.H w' (upd H' a u) := by
  have na : a ∉ w.ρ := fun z => W.snd.ri a z ia
  have nb : a ∉ B.w.ρ := fun z => by
    obtain ⟨n, hn⟩ := List.mem_iff_getElem?.mp z
    exact na (List.mem_of_getElem? (W.ext.pre n a hn))
  obtain ⟨e, ia'⟩ := ext_locked nb W'.ext
  have L := lk_unlock e du
  have x := ext_unlock W ia hd du W'.ext
  refine ⟨⟨x, W'.snd.updF, W.sb, W'.sto.lk L (fun z => W'.snd.ri a z ia'), fun i y ey => ?_, W'.len, W'.two⟩, e, x⟩
  have h := W'.sl i y ey
  cases y with
  | un => trivial
  | v d => obtain ⟨v, e1, h1⟩ := h; exact ⟨v, e1, h1.lk L⟩
  | lin l =>
    obtain ⟨b, e1, h1, h2, h3, h4⟩ := h
    exact ⟨b, e1, h1.lk L fun z => h3 (by rw [z]; exact ia'), h2, h3, (upd_none (show upd B.H a _ b = none from h4)).2⟩
end
end Dz
namespace Dz
open PySem PySem.Spec PyProof.Rows L2
section
variable {X : Cx} {G : Env} {σ σ' : L2.St} {w w1 w' : Wo} {H H1 H' : Hp} {s s1 s' : Sta} {K : PySem.W.Frag} {mg : Str → Option Value} {B : Ba} {I : Addr → Prop} {q : Bool} {a : Addr}
variable {b c e o : Expr} {es : List Expr} {f g h : Ev} {pos p2 p px : Pos} {st : Stmt} {sts : List Stmt} {gs : Ex} {x : Str}
theorem mono_unlock {u : HO} {od : Obj} (ia : w.I a) (hd : H a = some u) (du : isDict u) (m : Mono w (upd H a (.frz od u)) w' H') : Mono w H w' (upd H' a u) := by
  refine ⟨⟨fun b o ib e => ?_, fun b xs e => ?_⟩, m.pre⟩
  · by_cases n : b = a
    · subst n
      rw [hd] at e; cases e
      exact ⟨(m.imm.at' b _ ib upd_same).1, upd_same⟩
    · obtain ⟨h1, h2⟩ := m.imm.at' b o ib (by rw [upd_ne n]; exact e)
      exact ⟨h1, by rw [upd_ne n]; exact h2⟩
  · have n : b ≠ a := fun z => by
      subst z
      rw [hd] at e
      cases e
      rcases du with ⟨_, z⟩ | ⟨_, z⟩ <;> cases z
    rw [upd_ne n]
    exact m.imm.tup b xs (by rw [upd_ne n]; exact e)
/-- no exception leaves a loop over a dict -/
def noEx : Fl → Fl
  | .ex _ _ => .bad
  | r => r
theorem PostS.lock {D : Ends} {r : Fl} {u : HO} {od : Obj} (W : Wd X.K X.mg G.B w σ s H) (ia : w.I a) (hd : H a = some u) (du : isDict u) (h : PostS X G w H (noEx r) D) :
    PostS X ⟨G.B.lk a (.frz od u), E0⟩ w (upd H a (.frz od u)) r ⟨fun σ' H' => H' a = some (.frz od u) ∧ D.nx σ' (upd H' a u), fun v H' => H' a = some (.frz od u) ∧ D.rt v (upd H' a u), fun σ' H' => H' a = some (.frz od u) ∧ D.bk σ' (upd H' a u), fun σ' H' => H' a = some (.frz od u) ∧ D.ct σ' (upd H' a u)⟩ := by
  have nb : a ∉ G.B.w.ρ := fun z => by
    obtain ⟨n, hn⟩ := List.mem_iff_getElem?.mp z
    exact W.snd.ri a (List.mem_of_getElem? (W.ext.pre n a hn)) ia
  cases r with
  | nx s2 =>
    intro σ2 w2 H2 m W2
    obtain ⟨W3, e, x⟩ := W.unlock ia hd du W2
    exact ⟨e, h σ2 w2 _ (mono_unlock ia hd du m) W3⟩
  | brk s2 =>
    intro σ2 w2 H2 m W2
    obtain ⟨W3, e, x⟩ := W.unlock ia hd du W2
    exact ⟨e, h σ2 w2 _ (mono_unlock ia hd du m) W3⟩
  | cnt s2 =>
    intro σ2 w2 H2 m W2
    obtain ⟨W3, e, x⟩ := W.unlock ia hd du W2
    exact ⟨e, h σ2 w2 _ (mono_unlock ia hd du m) W3⟩
  | ret d s2 =>
    intro v w2 H2 x sn so hv
    obtain ⟨e, ia2⟩ := ext_locked nb x
    have L := lk_unlock e du
    exact ⟨e, h v w2 _ (ext_unlock W ia hd du x) sn.updF (so.lk L fun z => sn.ri a z ia2) (hv.lk L)⟩
  | ex c fs => exact h.elim
  | bad => exact h.elim
theorem PostS.e0 {D : Ends} {r : Fl} (h : PostS X G w H (noEx r) D) : PostS X ⟨G.B, E0⟩ w H r D := by
  cases r with
  | ex c fs => exact h.elim
  | _ => exact h
def keyP' : Key → P
  | .inl i => .int i
  | .inr x => .str x
theorem key_td {J : Addr → Prop} {k : Key} : Td K false H J (keyP' k) (kV k) := by
  cases k with
  | inl i => exact .int i
  | inr x => exact .str x
theorem keys_td {J : Addr → Prop} : ∀ {ks : List Key}, TdL K false H J (ks.map keyP') (ks.map kV)
  | [] => .nil
  | _ :: _ => .cons key_td keys_td
def keysD : D → Option (List D)
  | .dic kvs => some (kvs.map fun kv => .p (keyP' kv.1))
  | .dct kvs => some (kvs.map fun kv => .p (.tup (kv.1.map keyP')))
  | _ => none
theorem TdK.mapK {κ : Type} {J : Addr → Prop} {kvs : List (κ × P)} {vs : List (κ × V)} (t : TdK K q H J kvs vs) : kvs.map (·.1) = vs.map (·.1) := by
  induction t with
  | nil => rfl
  | cons _ _ ih => simp [ih]
theorem map_at {α β : Type} {xs : List α} {ys : List β} {i : Nat} {y : β} {γ : Type} {f : α → γ} {g : β → γ} (e : xs.map f = ys.map g) (h : ys[i]? = some y) : ∃ x, xs[i]? = some x ∧ f x = g y := by
  have h2 : (xs.map f)[i]? = some (g y) := by rw [e, List.getElem?_map, h]; rfl
  rw [List.getElem?_map] at h2
  obtain ⟨x, hx, hf⟩ := Option.map_eq_some_iff.mp h2
  exact ⟨x, hx, hf⟩
/-- the keys of a locked dict -/
theorem walkK {od : Obj} {kvs : List (Key × P)} {vs : List (Key × V)} {J : Addr → Prop} (ia : w.I a) (hd : H a = some (.frz od (.dK vs))) (t : TdK X.K false H J kvs vs) : WalkD X G w H (Itk a od vs) (kvs.map fun kv => .p (keyP' kv.1)) := by
  have hl : (kvs.map fun kv => D.p (keyP' kv.1)).length = vs.length := by rw [List.length_map]; have := congrArg List.length t.mapK; simpa using this
  refine ⟨_, _, by rw [hl]; exact walk_keys, fun w1 H1 m => (m.imm.at' a _ ia hd).2, fun i H0 x H1 w0 hi m sn y => ?_⟩
  obtain ⟨rfl, k, v, e, rfl⟩ := y
  refine ⟨.inl rfl, fun w1 _ _ => ?_⟩
  obtain ⟨kv, h1, h2⟩ := map_at t.mapK e
  refine ⟨.p (keyP' k), by rw [List.getElem?_map, h1]; simp only [Option.map_some]; rw [h2], .p key_td⟩
theorem walkT {od : Obj} {kvs : List (List Key × P)} {vs : List (List Key × V)} {J : Addr → Prop} (ia : w.I a) (hd : H a = some (.frz od (.dT vs))) (t : TdK X.K false H J kvs vs) : WalkD X G w H (Itkt a od vs) (kvs.map fun kv => .p (.tup (kv.1.map keyP'))) := by
  have hl : (kvs.map fun kv => D.p (.tup (kv.1.map keyP'))).length = vs.length := by rw [List.length_map]; have := congrArg List.length t.mapK; simpa using this
  refine ⟨_, _, by rw [hl]; exact walk_keysT, fun w1 H1 m => (m.imm.at' a _ ia hd).2, fun i H0 x H1 w0 hi m sn y => ?_⟩
  obtain ⟨rfl, k, v, qa, e, rfl, hq⟩ := y
  refine ⟨.inl rfl, fun w1 _ _ => ?_⟩
  obtain ⟨kv, h1, h2⟩ := map_at t.mapK e
  refine ⟨.p (.tup (k.map keyP')), by rw [List.getElem?_map, h1]; simp only [Option.map_some]; rw [h2], .p (.tup hq keys_td)⟩
/-- the loop, from its beginning on -/
theorem loop_read {D : Ends} {t : Tg} {J : It} {ds : List Dz.D} (W1 : Wd X.K X.mg B w1 σ s' H1) (wk : WalkD X ⟨B, E0⟩ w1 H1 J ds) (h : PostS X ⟨B, E0⟩ w1 H1 (loopS t gs ds s') D) :
    ∃ W : Nat → Nat → L2.St → Hp → Prop, (∃ m, W 0 m σ H1) ∧ ∀ i m σ H, W i m σ H → (J.stop i H ∧ D.nx σ H) ∨ (J.go i H ∧ ∃ N : L2.St → Hp → Prop, (∀ σ' H', N σ' H' → ∃ m', m' < m ∧ W (i + 1) m' σ' H') ∧ ∀ x H', J.yld i H x H' →
      (∃ B, tG X ⟨B, E0⟩ t x σ H' fun σ2 H2 => (∃ B, tS X ⟨B, E0⟩ gs { D with nx := N, ct := N, bk := D.nx } σ2 H2))) := by
  obtain ⟨Gs, Y, wlk, hG, hY⟩ := wk
  refine for_it (g := fun v σ H Q => ∃ B, tG X ⟨B, E0⟩ t v σ H Q) (tb := fun D σ H => ∃ B, tS X ⟨B, E0⟩ gs D σ H) wlk (fun i σ H => ∃ w0 s, Mono w1 H1 w0 H ∧ Wd X.K X.mg B w0 σ s H ∧ PostS X ⟨B, E0⟩ w0 H (loopS t gs (ds.drop i) s) D) ⟨w1, s', .refl, W1, by rw [List.drop_zero]; exact h⟩ (fun i σ H _ ⟨w0, s, m, W0, _⟩ => hG w0 H m) ?_ ?_
  · rintro i x σ2 H2 H3 hi ⟨w0, s, m, W0, h0⟩ y
    obtain ⟨w2, d, m2, W2, ed, vd⟩ := yield_at (G := ⟨B, E0⟩) (J := J) (Y := Y) W0 (hY i H2 x H3 w0 hi m W0.snd y)
    refine ⟨B, w2, s, d, W2, vd, ?_⟩
    have ed' : ds.drop i = d :: ds.drop (i + 1) := by
      rw [List.drop_eq_getElem_cons hi]
      rw [List.getElem?_eq_getElem hi] at ed
      rw [Option.some.inj ed]
    rw [ed', loopS] at h0
    cases et : t d s with
    | none => simp only [et] at h0; exact h0.elim
    | some s3 =>
      simp only [et] at h0
      intro σ4 w4 H4 m4 W4
      refine ⟨B, w4, s3, W4, ?_⟩
      have mm : Mono w1 H1 w4 H4 := (m.trans m2).trans m4
      have h0 := h0.at (m2.trans m4)
      revert h0
      cases gs s3 with
      | nx s5 => exact fun h0 σ' w' H' m' W' => ⟨w', s5, mm.trans m', W', h0.at m'⟩
      | cnt s5 => exact fun h0 σ' w' H' m' W' => ⟨w', s5, mm.trans m', W', h0.at m'⟩
      | brk s5 => exact fun h0 => h0
      | ret d s5 => exact fun h0 => h0
      | ex c fs => exact fun h0 => h0
      | bad => exact fun h0 => h0
  · rintro σ2 H2 ⟨w0, s, m, W0, h0⟩
    rw [List.drop_length] at h0
    exact h0 σ2 w0 H2 .refl W0
/-- for k in d, d a dict that no one changes any more -/
def forK (i : Nat) (t : Tg) (b : Ex) : Ex := fun s => match s.sl[i]? with
  | some (.v d) => match keysD d with
    | some ds => noEx (loopS t b ds s)
    | none => .bad
  | _ => .bad
theorem PS.or' {t t' : TS} (h : PS X st t) (h' : PS X st t') : PS X st (fun D σ H => t D σ H ∨ t' D σ H) := ⟨fun pins s σ H D I q => by
  rcases q with q | q
  · exact h.run pins s σ H D I q
  · exact h'.run pins s σ H D I q⟩
theorem ds_forK {i : Nat} {tg : Expr} {t : Tg} (hp : PassesOwn (model X.prog X.w) X.A X.env X.xe) (hc : X.calm = true) (hg : ∀ B, DG X ⟨B, E0⟩ tg t) (hb : ∀ G', G'.E = E0 → DSs X G' sts gs) (hN : X.N[i]? = some x := by rfl) (hv : Vis X.env.scope x := by first | exact Or.inl rfl | exact Or.inr (Or.inl rfl) | exact Or.inr (Or.inr rfl))
    (hd : (x == ("__debug__" : Str)) = false := by decide) (hcd : (x == ("__classdict__" : Str)) = false := by decide) (hs : ∀ y, foldedSetIterable (.Name x px) X.env y = pure y := by intro _; rfl) :
    DS X G (.For tg (.Name x px) sts [] pos) (forK i t gs) := by
  have base := ps_for (pos := pos) (g := fun v σ H Q => ∃ B, tG X ⟨B, E0⟩ t v σ H Q) (tb := fun D σ H => ∃ B, tS X ⟨B, E0⟩ gs D σ H) hp hc (pi_keys (tg := tg) (pe_var (pos := px) (i := i) hN hv hd hcd)) ⟨fun pins s σ H v u Q I r ⟨B, q⟩ => (hg B).run pins s σ H v u Q I r q⟩ ⟨fun pins s σ H D I ⟨B, q⟩ => (hb ⟨B, E0⟩ rfl).run pins s σ H D I q⟩ hs
  refine PSi (PS.or' (ps_lock base) base) fun D σ H ⟨w, s, W, h⟩ => ?_
  unfold forK at h
  split at h
  · rename_i d ed
    obtain ⟨v, ev, hv⟩ := W.sl i _ ed
    split at h
    · rename_i ds ek
      cases hv with
      | @dic a kvs vs r ia t =>
        cases ek
        rcases r with r | ⟨od, r⟩
        · refine .inl ⟨a, _, r, trivial, fun od => ⟨.ref a, ev, a, od, rfl, .inl ⟨vs, upd_same, ?_⟩⟩⟩
          exact loop_read (W.lock ia r (.inl ⟨_, rfl⟩)) (walkK ia upd_same (t.lk (lk_lock r (.inl ⟨_, rfl⟩)))) (PostS.lock W ia r (.inl ⟨_, rfl⟩) h)
        · refine .inr ⟨.ref a, ev, a, od, rfl, .inl ⟨vs, r, ?_⟩⟩
          exact loop_read W (walkK ia r t) h.e0
      | @dct a kvs vs r ia t =>
        cases ek
        rcases r with r | ⟨od, r⟩
        · refine .inl ⟨a, _, r, trivial, fun od => ⟨.ref a, ev, a, od, rfl, .inr ⟨vs, upd_same, ?_⟩⟩⟩
          exact loop_read (W.lock ia r (.inr ⟨_, rfl⟩)) (walkT ia upd_same (t.lk (lk_lock r (.inr ⟨_, rfl⟩)))) (PostS.lock W ia r (.inr ⟨_, rfl⟩) h)
        · refine .inr ⟨.ref a, ev, a, od, rfl, .inr ⟨vs, r, ?_⟩⟩
          exact loop_read W (walkT ia r t) h.e0
      | p _ => cases ek
      | fz _ _ => cases ek
      | kt _ _ => cases ek
      | loc _ => cases ek
    · exact h.elim
  · exact h.elim
end
end Dz
namespace Dz
open PySem PySem.Spec PyProof.Rows L2
section
variable {X : Cx} {G : Env} {σ σ' : L2.St} {w w1 w' : Wo} {H H1 H' : Hp} {s s1 s' : Sta} {K : PySem.W.Frag} {mg : Str → Option Value} {B : Ba} {I : Addr → Prop} {q : Bool} {a : Addr}
variable {b c e o elt tg iter : Expr} {es ifs : List Expr} {f g h fe : Ev} {pos p2 p px : Pos} {st : Stmt} {sts : List Stmt} {gs : Ex} {x : Str}
theorem PostF.lock {Q : VK} {m : Lin} {s2 : Sta} {u : HO} {od : Obj} (W : Wd X.K X.mg G.B w σ s H) (ia : w.I a) (hd : H a = some u) (du : isDict u) (h : PostF X G σ w H (.ok m s2) Q) :
    PostF X ⟨G.B.lk a (.frz od u), E0⟩ σ w (upd H a (.frz od u)) (.ok m s2) (fun v H' => H' a = some (.frz od u) ∧ Q v (upd H' a u)) := by
  intro D w2 H2 m2 W2 l n1 n2 n3 n4
  obtain ⟨W3, e, x⟩ := W.unlock ia hd du W2
  have ia2 : w2.I a := (m2.imm.at' a _ ia upd_same).1
  have nD : D ≠ a := fun z => n2 (by rw [z]; exact ia2)
  exact ⟨e, h D w2 _ (mono_unlock ia hd du m2) W3 (l.lk (lk_unlock e du) nD) n1 n2 (upd_none (show upd G.B.H a _ D = none from n3)).2 n4⟩
theorem PostF.e0 {Q : VK} {m : Lin} {s2 : Sta} (h : PostF X G σ w H (.ok m s2) Q) : PostF X ⟨G.B, E0⟩ σ w H (.ok m s2) Q := h
/-- a comprehension, from its walk on -/
theorem lc_tail {own : List Nat} {t : Tg} {tt : Sta → Res Bool} {gg : TG} {ds : List D} {xs : List P} {stE : Option (List MO)} {J : It} {Q : VK} (hr : RawG X own gg t) (W1 : Wd X.K X.mg G.B w1 σ s' H1) (wk : WalkD X G w1 H1 J ds)
    (el : lcGo (inSl own s'.sl) t tt fe ds [] s'.st = some (xs, stE)) (h : PostF X G σ w1 H1 (.ok (.lst xs) ⟨s'.sl, stE⟩) Q) :
    ∀ D, H1 D = none → ∃ W : Nat → Nat → Hp → Prop, (∃ m, W 0 m (upd H1 D (.lst []))) ∧ ∀ i m H, W i m H → (J.stop i H ∧ Q (.ref D) H) ∨ (J.go i H ∧ ∃ Nx : Hp → Prop, (∀ H', Nx H' → ∃ m', m' < m ∧ W (i + 1) m' H') ∧ ∀ x H', J.yld i H x H' → gg x (wipe σ own) H' fun σ2 H2 => wipe σ2 own = wipe σ own ∧ tT0 X tt σ2 H2 fun b H3 =>
      if b = true then tE0 X fe σ2 H3 fun y H4 => ∃ acc, H4 D = some (.lst acc) ∧ acc.length < sizeLine ∧ Nx (upd H4 D (.lst (acc ++ [y]))) else Nx H3) := by
  intro D nD
  obtain ⟨Gs, Y, wlk, hG, hY⟩ := wk
  have b0 := W1.bare (o := .lst []) nD
  have x0 : Ext w1 H1 w1 (upd H1 D (.lst [])) := Ext.refl.updF nD
  refine it_any wlk (fun i H => PvA X w1 H1 w1 H1 D (fun acc st => lcGo (inSl own s'.sl) t tt fe (ds.drop i) acc st = some (xs, stE)) H)
    ⟨w1, [], s'.st, [], ⟨x0, x0.mono W1.snd, b0.2.1.snd, b0.2.1.sto, upd_same, .nil, b0.2.2.1, b0.2.2.2.1⟩, by rw [List.drop_zero]; exact el⟩ (fun i H _ ⟨wi, _, _, _, x, _⟩ => hG wi H x.mono) ?_ ?_
  · exact lc_turn hr nD (fun j d ej => W1.sl j _ ej) W1.len hY
  · rintro H2 ⟨wi, acc, st, vs, ho, go⟩
    rw [List.drop_length, lcGo] at go
    cases go
    exact h D wi H2 (ho.ext.mono W1.snd) (W1.step ho.ext ho.snd ho.sto) (.lst ho.at' ho.tl) ho.nr ho.ni (W1.ext.there D nD) fun j hj z => by
      obtain ⟨a, _, e1, h1, _⟩ := W1.linAddr hj
      rw [e1] at z
      cases z
      exact h1.there nD
/-- [.. for k in d ..] -/
def lcK (i : Nat) (own : List Nat) (t : Tg) (tt : Sta → Res Bool) (fe : Ev) : Sta → Res Lin := fun s => match s.sl[i]? with
  | some (.v d) => match keysD d with
    | some ds => match lcGo (inSl own s.sl) t tt fe ds [] s.st with
      | some (xs, st) => .ok (.lst xs) ⟨s.sl, st⟩
      | none => .bad
    | none => .bad
  | _ => .bad
theorem PE.or' {t t' : TE} (h : PE X e t) (h' : PE X e t') : PE X e (fun σ H Q => t σ H Q ∨ t' σ H Q) := ⟨fun pins s σ H Q I q => by
  rcases q with q | q
  · exact h.run pins s σ H Q I q
  · exact h'.run pins s σ H Q I q⟩
theorem lcK_read {i : Nat} {own : List Nat} {t : Tg} {tt : Sta → Res Bool} {gg : TG} {tv : TE} (hr : RawG X own gg t) (tvh : ∀ σ H Q v, σ[i]? = some (some v) → Q v H → tv σ H Q) {Q : VK} (h0 : tF X G (lcK i own t tt fe) σ H Q) :
    tLockE (tLc (iKeys tv) gg (tT0 X tt) (tE0 X fe) own) σ H Q ∨ tLc (iKeys tv) gg (tT0 X tt) (tE0 X fe) own σ H Q := by
  obtain ⟨w, s, W, h⟩ := h0
  unfold lcK at h
  split at h
  · rename_i d ed
    obtain ⟨v, ev, hv⟩ := W.sl i _ ed
    split at h
    · rename_i ds ek
      split at h
      · rename_i xs stE el
        cases hv with
        | @dic a kvs vs r ia t =>
          cases ek
          rcases r with r | ⟨od, r⟩
          · refine .inl ⟨a, _, r, trivial, fun od => tvh _ _ _ _ ev ⟨a, od, rfl, .inl ⟨vs, upd_same, ?_⟩⟩⟩
            exact lc_tail (G := ⟨G.B.lk a (.frz od (.dK vs)), E0⟩) hr (W.lock ia r (.inl ⟨_, rfl⟩)) (walkK ia upd_same (t.lk (lk_lock r (.inl ⟨_, rfl⟩)))) el (PostF.lock W ia r (.inl ⟨_, rfl⟩) h)
          · refine .inr (tvh _ _ _ _ ev ⟨a, od, rfl, .inl ⟨vs, r, ?_⟩⟩)
            exact lc_tail hr W (walkK ia r t) el h
        | @dct a kvs vs r ia t =>
          cases ek
          rcases r with r | ⟨od, r⟩
          · refine .inl ⟨a, _, r, trivial, fun od => tvh _ _ _ _ ev ⟨a, od, rfl, .inr ⟨vs, upd_same, ?_⟩⟩⟩
            exact lc_tail (G := ⟨G.B.lk a (.frz od (.dT vs)), E0⟩) hr (W.lock ia r (.inr ⟨_, rfl⟩)) (walkT ia upd_same (t.lk (lk_lock r (.inr ⟨_, rfl⟩)))) el (PostF.lock W ia r (.inr ⟨_, rfl⟩) h)
          · refine .inr (tvh _ _ _ _ ev ⟨a, od, rfl, .inr ⟨vs, r, ?_⟩⟩)
            exact lc_tail hr W (walkT ia r t) el h
        | p _ => cases ek
        | fz _ _ => cases ek
        | kt _ _ => cases ek
        | loc _ => cases ek
      · exact h.elim
    · exact h.elim
  · exact h.elim
section
variable {scope : Scope} {own : List (Str × Nat)} {t : Tg} {tt : Sta → Res Bool} {gg : TG}
theorem df_lcK {i : Nat} (hc : X.calm = true) (hN : X.N.Nodup) (hx : X.N[i]? = some x) (hv : Vis X.env.scope x) (hd : (x == ("__debug__" : Str)) = false) (hcd : (x == ("__classdict__" : Str)) = false) (ok : BlkOk X.N X.env.scope scope own)
    (hg : ∀ (s : Shared) (H : Hp) (C : Addr) (cl : List (Str × Addr)) (fp : List Addr), PG (X.blk s H scope (compEnvC scope cl C X.env) fp) tg gg) (hr : RawG X (own.map (·.2)) gg t)
    (ht : ∀ (s : Shared) (H : Hp) (C : Addr) (cl : List (Str × Addr)) (fp : List Addr) (G' : Env), G'.E = E0 → DTs (X.blk s H scope (compEnvC scope cl C X.env) fp) G' ifs tt)
    (he : ∀ (s : Shared) (H : Hp) (C : Addr) (cl : List (Str × Addr)) (fp : List Addr) (G' : Env), G'.E = E0 → DE (X.blk s H scope (compEnvC scope cl C X.env) fp) G' elt fe)
    (hs : ∀ y, foldedSetIterable (.Name x px) X.env y = pure y := by intro _; rfl) : DF X G (.ListComp elt [⟨tg, .Name x px, ifs, 0⟩] scope pos) (lcK i (own.map (·.2)) t tt fe) := by
  have base := pe_lc (g := gg) (tt := tT0 X tt) (te := tE0 X fe) (pos := pos) hc hN (pi_keys (tg := tg) (pe_var (pos := px) (i := i) hx hv hd hcd)) ok hg (fun s H C cl fp => ⟨fun pins s1 σ1 H1 Q I ⟨w0, H0, q⟩ => (ht s H C cl fp (G0 w0 H0) rfl).run pins s1 σ1 H1 Q I q⟩) (fun s H C cl fp => ⟨fun pins s1 σ1 H1 Q I ⟨w0, H0, q⟩ => (he s H C cl fp (G0 w0 H0) rfl).run pins s1 σ1 H1 Q I q⟩) hs
  exact PEi (PE.or' (pe_lock base) base) fun σ H Q h => lcK_read hr (fun σ H Q v e q => ⟨v, e, q⟩) h
end
end
end Dz
namespace Dz
open PySem PySem.Spec PyProof.Rows L2
section
variable {X : Cx} {G : Env} {σ σ' : L2.St} {w w1 w' : Wo} {H H1 H' : Hp} {s s1 s' : Sta} {K : PySem.W.Frag} {mg : Str → Option Value} {B : Ba} {q : Bool} {a : Addr}
variable {e e2 : Expr} {elts : List Expr} {kk : Nat} {p pos tpos : Pos} {fa : Sta → Res (List D)}
/-! ### zip of two lists or two tuples -/
def pairsP (xs ys : List P) : List D := List.zipWith (fun x y => .p (.tup [x, y])) xs ys
def zipR (ds : List D) : Sta → Res (List D) := fun s => match ds with
  | [.p (.lst xs), .p (.lst ys)] => .ok (pairsP xs ys) s
  | [.p (.tup xs), .p (.tup ys)] => .ok (pairsP xs ys) s
  | _ => .bad
theorem walk_pairs {J : It} {Gs : Hp → Prop} {xs ys : List P} {vs us : List V} {n : Nat} (hn : n = min vs.length us.length) (wk : Walk J n Gs (YPair (fun i => vs[i]?) (fun i => us[i]?))) (hg : ∀ w1 H1, Mono w H w1 H1 → Gs H1) (t : TdL X.K false H w.I xs vs) (t2 : TdL X.K false H w.I ys us) : WalkD X G w H J (pairsP xs ys) := by
  have hl : (pairsP xs ys).length = n := by unfold pairsP; rw [List.length_zipWith, t.len, t2.len, hn]
  refine ⟨Gs, _, by rw [hl]; exact wk, hg, fun i H0 x H1 w0 hi m0 _ y => ?_⟩
  obtain ⟨T, a, b, rfl, nT, rfl, e1, e2⟩ := y
  refine ⟨.inr ⟨T, _, nT, rfl⟩, fun w1 m1 _ => ?_⟩
  have lx : i < xs.length := by unfold pairsP at hi; rw [List.length_zipWith] at hi; omega
  have ly : i < ys.length := by unfold pairsP at hi; rw [List.length_zipWith] at hi; omega
  obtain ⟨v1, f1, h1⟩ := t.at (x := xs[i]) (i := i) (by simp [lx])
  obtain ⟨v2, f2, h2⟩ := t2.at (x := ys[i]) (i := i) (by simp [ly])
  rw [show vs[i]? = some a from e1] at f1
  rw [show us[i]? = some b from e2] at f2
  cases f1; cases f2
  have mm := m0.trans m1
  refine ⟨.p (.tup [xs[i], ys[i]]), by unfold pairsP; rw [List.getElem?_zipWith]; simp [lx, ly], .p (.tup upd_same (.cons (h1.mono mm.imm) (.cons (h2.mono mm.imm) .nil)))⟩
theorem di_zip (hg : Gl X "zip") (hm : X.mg "zip" = none) (ha : DA X G [e, e2] fa)
    (hs : starEach [e, e2] X.env = (false, eval e X.env) :: starEach [e2] X.env := by rfl) (hpl : (backTo pos (starEach [e2] X.env)).any (·.1) = false := by rfl) : DI X G (.Tuple elts kk tpos) (.Call (.Name "zip" p) [e, e2] [] pos) (bnd fa zipR) :=
  PIi (RZ.pi_zipA hg hm ha hs hpl) fun σ H R ⟨w, s, W, h⟩ => ⟨w, s, W, PostI.bind (RR := RA X) h fun ds s1 vs w1 H1 m1 W1 r1 h => by
    unfold zipR at h
    split at h
    · rename_i xs ys
      cases r1 with
      | cons a r => cases r with
        | cons b r => cases r with
          | nil =>
            cases a with
            | p a => cases b with
              | p b => cases a with
                | lst h1 h2 t => cases b with
                  | lst h3 h4 t2 => exact ⟨_, _, _, _, rfl, .inl ⟨.of h1, .of h3, h w1 H1 _ .refl W1 (walk_pairs rfl (walk_zip rfl) (fun w2 H2 m2 => ⟨.of (m2.imm.at' _ _ h2 h1).2, .of (m2.imm.at' _ _ h4 h3).2⟩) t t2)⟩⟩
    · rename_i xs ys
      cases r1 with
      | cons a r => cases r with
        | cons b r => cases r with
          | nil =>
            cases a with
            | p a => cases b with
              | p b => cases a with
                | tupK z _ _ => cases z
                | @tup a1 _ us1 h1 t => cases b with
                  | tupK z _ _ => cases z
                  | @tup b1 _ us2 h3 t2 =>
                    refine ⟨_, _, _, _, rfl, .inr ⟨.of h1, .of h3, h w1 H1 _ .refl W1 (walk_pairs (Gs := fun H => SqT X.K H a1 us1 ∧ SqT X.K H b1 us2) rfl ⟨fun i H hi q => ?_, fun H q => ⟨us1, us2, q.1, q.2, by omega⟩, fun i H v H' hi q y => ?_⟩ (fun w2 H2 m2 => ⟨.of (m2.imm.tup _ _ h1), .of (m2.imm.tup _ _ h3)⟩) t t2)⟩⟩
                    · have l1 : i < us1.length := by omega
                      have l2 : i < us2.length := by omega
                      exact ⟨us1, us2, us1[i], us2[i], q.1, q.2, by simp [l1], by simp [l2]⟩
                    · obtain ⟨T, x, z, k1, k2, k3, k4, k5⟩ := y
                      exact ⟨T, x, z, k1, k2, k3, k4 _ q.1, k5 _ q.2⟩
    · exact h.elim⟩
end
end Dz
namespace Dz
open PySem PySem.Spec PyProof.Rows L2
/-! ### models are run: plain facts -/
section
variable {α β : Type} {s s1 s2 : Sta} {sl : List Sl} {st : Option (List MO)} {d d1 d2 : D} {i : Nat} {a : α}
theorem bnd_ok {f : Sta → Res α} {g : α → Sta → Res β} (h : f s = .ok a s1) : bnd f g s = g a s1 := by unfold bnd; rw [h]
theorem bnd2_ok {f g : Ev} {k : D → D → Ev} (h : f s = .ok d1 s1) (h2 : g s1 = .ok d2 s2) : bnd2 f g k s = k d1 d2 s2 := by unfold bnd2; rw [bnd_ok h, bnd_ok h2]
theorem bndS_ok {f : Sta → Res α} {k : α → Ex} (h : f s = .ok a s1) : bndS f k s = k a s1 := by unfold bndS; rw [h]
theorem seqS_nx {f g : Ex} (h : f s = .nx s1) : seqS f g s = g s1 := by unfold seqS; rw [h]
theorem seqS_ret {f g : Ex} (h : f s = .ret d s1) : seqS f g s = .ret d s1 := by unfold seqS; rw [h]
theorem rd_v (h : sl[i]? = some (.v d)) : rd i ⟨sl, st⟩ = .ok d ⟨sl, st⟩ := by unfold rd; simp only [h]
theorem pk_v (h : sl[i]? = some (.v d)) : pk i ⟨sl, st⟩ = .ok (.d d) ⟨sl, st⟩ := by unfold pk; simp only [h]
theorem pk_lin0 {m : Lin} (h : sl[i]? = some (.lin m)) : pk i ⟨sl, st⟩ = .ok (.lin m) ⟨sl, st⟩ := by unfold pk; simp only [h]
theorem consA_ok {f : Ev} {g : Sta → Res (List D)} {ds : List D} (h : f s = .ok d s1) (h2 : g s1 = .ok ds s2) : consA f g s = .ok (d :: ds) s2 := by unfold consA; rw [bnd_ok h, bnd_ok h2]
theorem callS_ok {m : Fn} {fa : Sta → Res (List D)} {ds : List D} {s3 : Sta} (h : fa s = .ok ds s1) (h2 : m ds s1.st = .ok d s3) : callS m fa s = .ok d ⟨s1.sl, s3.st⟩ := by unfold callS; rw [bnd_ok h, h2]
theorem callP_ok {m : Fn} {fa : Sta → Res (List D)} {ds : List D} {s3 : Sta} {d' : D} (h : fa s = .ok ds s1) (hn : ds.all noLoc = true) (h2 : m ds (some []) = .ok d s3) (h3 : outD d s3.st = some d') : callP m fa s = .ok d' s1 := by
  unfold callP; rw [bnd_ok h, if_pos hn, h2]; simp only [h3]
theorem ifS_t {t : Sta → Res Bool} {g h : Ex} (ht : t s = .ok true s1) : ifS t g h s = g s1 := by unfold ifS; rw [bndS_ok ht, if_pos rfl]
theorem ifS_f {t : Sta → Res Bool} {g h : Ex} (ht : t s = .ok false s1) : ifS t g h s = h s1 := by unfold ifS; rw [bndS_ok ht, if_neg (by decide)]
theorem loop_nil {t : Tg} {b : Ex} : loopS t b [] s = .nx s := rfl
theorem loop_cons {t : Tg} {b : Ex} {ds : List D} (ht : t d s = some s1) (hb : b s1 = .nx s2) : loopS t b (d :: ds) s = loopS t b ds s2 := by simp only [loopS, ht, hb]
/-- a loop by its invariant, which may count -/
theorem loop_inv {t : Tg} {b : Ex} (I : Nat → Sta → Prop) : ∀ (ds : List D) (n : Nat) (s : Sta), (∀ k d s, ds[k]? = some d → I (n + k) s → ∃ s1 s2, t d s = some s1 ∧ (b s1 = .nx s2 ∨ b s1 = .cnt s2) ∧ I (n + k + 1) s2) → I n s → ∃ s', loopS t b ds s = .nx s' ∧ I (n + ds.length) s'
  | [], n, s, _, hs => ⟨s, rfl, hs⟩
  | d :: ds, n, s, h, hs => by
    obtain ⟨s1, s2, e1, e2, h2⟩ := h 0 d s rfl hs
    obtain ⟨s', e3, h3⟩ := loop_inv (t := t) (b := b) I ds (n + 1) s2 (fun k d s e hi => by
      have := h (k + 1) d s (by simpa using e) (by rw [show n + (k + 1) = n + 1 + k by omega]; exact hi)
      rw [show n + (k + 1) + 1 = n + 1 + k + 1 by omega] at this
      exact this) h2
    refine ⟨s', ?_, by rw [List.length_cons, show n + (ds.length + 1) = n + 1 + ds.length by omega]; exact h3⟩
    simp only [loopS, e1]
    rcases e2 with e2 | e2 <;> simp only [e2] <;> exact e3
theorem forS_inv {fi : Sta → Res (List D)} {t : Tg} {b : Ex} {ds : List D} (I : Nat → Sta → Prop) (hf : fi s = .ok ds s1) (h : ∀ k d s, ds[k]? = some d → I k s → ∃ s1 s2, t d s = some s1 ∧ (b s1 = .nx s2 ∨ b s1 = .cnt s2) ∧ I (k + 1) s2) (hs : I 0 s1) :
    ∃ s', forS fi t b s = .nx s' ∧ I ds.length s' := by
  unfold forS
  rw [bndS_ok hf]
  have := loop_inv (t := t) (b := b) I ds 0 s1 (fun k d s e hi => by have := h k d s e (by simpa using hi); simpa using this) hs
  simpa using this
theorem rngL_at {lo : Int} {n k : Nat} {d : D} (h : (rngL lo n)[k]? = some d) : k < n ∧ d = .p (.int (lo + (k : Nat))) := by
  unfold rngL at h
  rw [List.getElem?_map] at h
  obtain ⟨j, ej, rfl⟩ := Option.map_eq_some_iff.mp h
  rw [List.getElem?_eq_some_iff] at ej
  obtain ⟨hl, ej⟩ := ej
  rw [List.length_range] at hl
  rw [List.getElem_range] at ej
  subst ej
  exact ⟨hl, rfl⟩
/-- a comprehension by its invariant -/
theorem lc_inv {sl : List Sl} {t : Tg} {fe : Ev} (I : Option (List MO) → Prop) (P : Dz.P → Prop) : ∀ (ds : List D) (acc : List Dz.P) (st : Option (List MO)), (∀ d st, d ∈ ds → I st → ∃ s1 x s2, t d ⟨sl, st⟩ = some s1 ∧ fe s1 = .ok (.p x) s2 ∧ P x ∧ I s2.st) → (∀ x ∈ acc, P x) → acc.length + ds.length ≤ sizeLine → I st →
    ∃ xs st', lcGo sl t yesT fe ds acc st = some (xs, st') ∧ xs.length = acc.length + ds.length ∧ (∀ x ∈ xs, P x) ∧ I st'
  | [], acc, st, _, ha, _, hi => ⟨acc, st, rfl, rfl, ha, hi⟩
  | d :: ds, acc, st, h, ha, hl, hi => by
    obtain ⟨s1, x, s2, e1, e2, hx, hi2⟩ := h d st (List.mem_cons_self ..) hi
    rw [List.length_cons] at hl
    obtain ⟨xs, st', e3, l3, h3, i3⟩ := lc_inv (sl := sl) (t := t) (fe := fe) I P ds (acc ++ [x]) s2.st (fun d st hd hi => h d st (List.mem_cons_of_mem _ hd) hi) (fun y hy => by
      rcases List.mem_append.mp hy with hy | hy
      · exact ha y hy
      · rw [List.mem_singleton] at hy; subst hy; exact hx) (by rw [List.length_append, List.length_singleton]; omega) hi2
    refine ⟨xs, st', ?_, by rw [l3]; simp only [List.length_append, List.length_cons, List.length_nil]; omega, h3, i3⟩
    simp only [lcGo, e1]
    simp only [yesT, e2]
    rw [if_pos (by omega)]
    exact e3
theorem lcF_inv {fi : Sta → Res (List D)} {own : List Nat} {t : Tg} {fe : Ev} {ds : List D} (I : Option (List MO) → Prop) (P : Dz.P → Prop) (hf : fi s = .ok ds s1)
    (h : ∀ d st, d ∈ ds → I st → ∃ s2 x s3, t d ⟨inSl own s1.sl, st⟩ = some s2 ∧ fe s2 = .ok (.p x) s3 ∧ P x ∧ I s3.st) (hl : ds.length ≤ sizeLine) (hi : I s1.st) :
    ∃ xs st', lcF fi own t yesT fe s = .ok (.lst xs) ⟨s1.sl, st'⟩ ∧ xs.length = ds.length ∧ (∀ x ∈ xs, P x) ∧ I st' := by
  obtain ⟨xs, st', e, l, h1, h2⟩ := lc_inv (sl := inSl own s1.sl) (t := t) (fe := fe) I P ds [] s1.st h (fun _ z => nomatch z) (by simpa using hl) hi
  refine ⟨xs, st', ?_, by simpa using l, h1, h2⟩
  unfold lcF
  rw [bnd_ok hf, e]
end
end Dz
namespace Dz
open PySem PySem.Spec PyProof.Rows L2
/-! ### expressions that leave the state as it is -/
abbrev EvD (f : Ev) (s : Sta) (d : D) : Prop := f s = .ok d s
abbrev EvI (f : Ev) (s : Sta) (i : Int) : Prop := f s = .ok (.p (.int i)) s
abbrev EvB (f : Ev) (s : Sta) (b : Bool) : Prop := f s = .ok (.p (.bl b)) s
abbrev EvT (f : Sta → Res Bool) (s : Sta) (b : Bool) : Prop := f s = .ok b s
section
variable {s : Sta} {f g h : Ev} {d e x : D} {i j k : Int} {n : Nat} {b c : Bool} {t u : Sta → Res Bool}
theorem ed_cst : EvD (cst d) s d := rfl
theorem ed_rd (h : s.sl[n]? = some (.v d)) : EvD (rd n) s d := by cases s; exact rd_v h
theorem ed_add (hf : EvI f s i) (hg : EvI g s j) : EvI (bnd2 f g addD) s (i + j) := by unfold EvI; rw [bnd2_ok hf hg]; rfl
theorem ed_sub (hf : EvI f s i) (hg : EvI g s j) : EvI (bnd2 f g subD) s (i - j) := by unfold EvI; rw [bnd2_ok hf hg]; rfl
theorem okIf_ok (hc : c = true) : okIf c d s = .ok d s := by unfold okIf; rw [if_pos hc]
theorem ed_mul (hf : EvI f s i) (hg : EvI g s j) (hc : cMul i j = true) : EvI (bnd2 f g mulD) s (i * j) := by unfold EvI; rw [bnd2_ok hf hg]; exact okIf_ok hc
theorem ed_mod (hf : EvI f s i) (hg : EvI g s j) (hc : j ≠ 0) : EvI (bnd2 f g modD) s (i.fmod j) := by unfold EvI; rw [bnd2_ok hf hg]; exact okIf_ok (by simpa using hc)
theorem ed_fdiv (hf : EvI f s i) (hg : EvI g s j) (hc : (decide (j ≠ 0) && decide (j.natAbs < 1073741824)) = true) : EvI (bnd2 f g fdivD) s (i.fdiv j) := by unfold EvI; rw [bnd2_ok hf hg]; exact okIf_ok hc
theorem ed_pow (hf : EvI f s i) (hg : EvI g s j) (hc : cPow i j = true) : EvI (bnd2 f g powD) s (i ^ j.toNat) := by unfold EvI; rw [bnd2_ok hf hg]; exact okIf_ok hc
theorem ed_neg (hf : EvI f s i) : EvI (bnd f negD) s (-i) := by unfold EvI; rw [bnd_ok hf]; rfl
theorem ep_as (hf : EvD f s d) : asPk f s = .ok (.d d) s := by unfold asPk; rw [bnd_ok hf]
theorem ep_pk (h : s.sl[n]? = some (.v d)) : pk n s = .ok (.d d) s := by cases s; exact pk_v h
theorem ep_lin {m : Lin} (h : s.sl[n]? = some (.lin m)) : pk n s = .ok (.lin m) s := by unfold pk; simp only [h]
theorem ed_fn {fp : Sta → Res Pk} {k : Pk → Sta → Option P} {p : Pk} {y : P} (hf : fp s = .ok p s) (hk : k p s = some y) : EvD (bnd fp (fnK k)) s (.p y) := by unfold EvD; rw [bnd_ok hf]; unfold fnK; rw [hk]
theorem ed_int {fp : Sta → Res Pk} (hf : fp s = .ok (.d (.p (.int i))) s) : EvI (bnd fp (fnK intP)) s i := ed_fn hf rfl
theorem ed_abs {fp : Sta → Res Pk} (hf : fp s = .ok (.d (.p (.int i))) s) : EvI (bnd fp (fnK absP)) s (if i < 0 then -i else i) := ed_fn hf rfl
theorem lenP_seq {d : D} {ds : List D} (hs : seqOf d s = some ds) : lenP (.d d) s = some (.int ds.length) := by
  unfold lenP
  split
  · rename_i x e; cases e; unfold seqOf at hs; cases hs
  · show (match seqOf d s with | some ds => _ | none => _) = _
    rw [hs]
theorem ed_len {fp : Sta → Res Pk} {ds : List D} (hf : fp s = .ok (.d d) s) (hs : seqOf d s = some ds) : EvI (bnd fp (fnK lenP)) s ds.length := ed_fn hf (lenP_seq hs)
theorem ed_lenL {fp : Sta → Res Pk} {xs : List P} (hf : fp s = .ok (.lin (.lst xs)) s) : EvI (bnd fp (fnK lenP)) s xs.length := ed_fn hf (by show some (P.int ((xs.map D.p).length)) = _; rw [List.length_map])
theorem ed_ixV (h : s.sl[n]? = some (.v d)) (hg : EvD g s e) (hx : ixO d e s = some x) : EvD (ixV n g) s x := by
  unfold EvD ixV
  rw [bnd_ok (ep_pk h), bnd_ok hg, bnd_ok (ep_pk h)]
  show (match ixO d e s with | some x => Res.ok x s | none => .bad) = _
  rw [hx]
theorem ed_ix (hf : EvD f s d) (hg : EvD g s e) (hx : ixO d e s = some x) : EvD (bnd2 f g ixD) s x := by unfold EvD; rw [bnd2_ok hf hg]; unfold ixD; rw [hx]
theorem eb_int {c : Int → Int → Bool} {op : D → D → Ev} (ho : op = intOp (fun _ _ => true) fun i j => .bl (c i j)) (hf : EvI f s i) (hg : EvI g s j) : EvB (bnd2 f g op) s (c i j) := by subst ho; unfold EvB; rw [bnd2_ok hf hg]; rfl
theorem eb_lt (hf : EvI f s i) (hg : EvI g s j) : EvB (bnd2 f g ltD) s (decide (i < j)) := eb_int (c := fun i j => decide (i < j)) rfl hf hg
theorem eb_le (hf : EvI f s i) (hg : EvI g s j) : EvB (bnd2 f g leD) s (decide (i ≤ j)) := eb_int (c := fun i j => decide (i ≤ j)) rfl hf hg
theorem eb_gt (hf : EvI f s i) (hg : EvI g s j) : EvB (bnd2 f g gtD) s (decide (j < i)) := eb_int (c := fun i j => decide (j < i)) rfl hf hg
theorem eb_ge (hf : EvI f s i) (hg : EvI g s j) : EvB (bnd2 f g geD) s (decide (j ≤ i)) := eb_int (c := fun i j => decide (j ≤ i)) rfl hf hg
theorem et_b (hf : EvB f s b) : EvT (bnd f isBl) s b := by unfold EvT; rw [bnd_ok hf]; rfl
theorem eb_eq {y z : P} (hf : EvD f s (.p y)) (hg : EvD g s (.p z)) (hd : min (deep y) (deep z) ≤ 60) : EvB (bnd2 f g eqD) s (eqP y z) := by
  unfold EvB; rw [bnd2_ok hf hg]; unfold eqD cmpP
  show (match (if min (deep y) (deep z) ≤ 60 then some (eqP y z) else none) with | some b => Res.ok (D.p (.bl b)) s | none => .bad) = _
  rw [if_pos hd]
theorem eb_ne {y z : P} (hf : EvD f s (.p y)) (hg : EvD g s (.p z)) (hd : min (deep y) (deep z) ≤ 60) : EvB (bnd2 f g neD) s (!eqP y z) := by
  unfold EvB; rw [bnd2_ok hf hg]; unfold neD cmpP
  show (match (if min (deep y) (deep z) ≤ 60 then some (!eqP y z) else none) with | some b => Res.ok (D.p (.bl b)) s | none => .bad) = _
  rw [if_pos hd]
theorem eb_isnt (hf : EvB f s b) (hg : EvB g s c) : EvB (bnd2 f g isntD) s (!decide (b = c)) := by unfold EvB; rw [bnd2_ok hf hg]; rfl
theorem eb_is (hf : EvB f s b) (hg : EvB g s c) : EvB (bnd2 f g isD) s (decide (b = c)) := by unfold EvB; rw [bnd2_ok hf hg]; rfl
theorem eb_andT (hf : EvB f s true) (hg : EvD g s d) : EvD (andE f g) s d := by unfold EvD andE; rw [bnd_ok hf]; exact hg
theorem eb_andF (hf : EvB f s false) : EvB (andE f g) s false := by unfold EvB andE; rw [bnd_ok hf]; rfl
theorem eb_and (hf : EvB f s b) (hg : b = true → EvB g s c) : EvB (andE f g) s (b && c) := by
  cases b
  · exact eb_andF hf
  · exact eb_andT hf (hg rfl)
theorem eb_or (hf : EvB f s b) (hg : b = false → EvB g s c) : EvB (orE f g) s (b || c) := by
  cases b
  · unfold EvB orE; rw [bnd_ok hf]; exact hg rfl
  · unfold EvB orE; rw [bnd_ok hf]; rfl
theorem eb_not (hf : EvB f s b) : EvB (notE f) s (!b) := by unfold EvB notE; rw [bnd_ok hf]; rfl
theorem et_not (ht : EvT t s b) : EvT (notT t) s (!b) := by unfold EvT notT; rw [bnd_ok ht]
theorem et_and (ht : EvT t s b) (hu : b = true → EvT u s c) : EvT (andT t u) s (b && c) := by
  cases b
  · unfold EvT andT; rw [bnd_ok ht]; rfl
  · unfold EvT andT; rw [bnd_ok ht]; exact hu rfl
theorem et_or (ht : EvT t s b) (hu : b = false → EvT u s c) : EvT (orT t u) s (b || c) := by
  cases b
  · unfold EvT orT; rw [bnd_ok ht]; exact hu rfl
  · unfold EvT orT; rw [bnd_ok ht]; rfl
theorem et_pk (h : s.sl[n]? = some (.v (.p (.bl b)))) : EvT (bnd (pk n) truPR) s b := by unfold EvT; rw [bnd_ok (ep_pk h)]; rfl
theorem et_as (hf : EvB f s b) : EvT (bnd (asPk f) truPR) s b := by unfold EvT; rw [bnd_ok (ep_as hf)]; rfl
theorem ea_cons {fa : Sta → Res (List D)} {ds : List D} (hf : EvD f s d) (hg : fa s = .ok ds s) : consA f fa s = .ok (d :: ds) s := consA_ok hf hg
theorem ea_nil : nilA s = .ok [] s := rfl
theorem ed_callP {m : Fn} {fa : Sta → Res (List D)} {ds : List D} {s3 : Sta} {y : P} (h : fa s = .ok ds s) (hn : ds.all noLoc = true) (h2 : m ds (some []) = .ok (.p y) s3) : EvD (callP m fa) s (.p y) := callP_ok h hn h2 rfl
theorem ei_rng1 {fa : Sta → Res (List D)} {j : Int} (h : fa s = .ok [.p (.int j)] s) (h1 : 0 ≤ j) (h2 : j < 2 ^ 62) : bnd fa rng1 s = .ok (rngL 0 j.toNat) s := by
  rw [bnd_ok h]
  unfold rng1
  simp only
  rw [if_pos ⟨by omega, h2⟩]
theorem es_set (hf : EvD f s d) : bndS f (setV n) s = .nx ⟨s.sl.set n (.v d), s.st⟩ := by rw [bndS_ok hf]; rfl
theorem es_ret (hf : EvD f s d) : bndS f retS s = .ret d s := by rw [bndS_ok hf]; rfl
theorem es_ifT {p q : Ex} (ht : EvT t s true) : ifS t p q s = p s := ifS_t ht
theorem es_ifF {p q : Ex} (ht : EvT t s false) : ifS t p q s = q s := ifS_f ht
theorem es_app {xs : List P} {y : P} (h : s.sl[n]? = some (.lin (.lst xs))) (hf : EvD f s (.p y)) (hl : xs.length < sizeLine) : appV n f s = .nx ⟨s.sl.set n (.lin (.lst (xs ++ [y]))), s.st⟩ := by
  unfold appV
  rw [bndS_ok (ep_lin h), if_pos ⟨rfl, rfl⟩, bndS_ok hf, bndS_ok (ep_lin h)]
  show (match (if xs.length < sizeLine then some (⟨s.sl.set n (.lin (.lst (xs ++ [y]))), s.st⟩ : Sta) else none) with | some s' => Fl.nx s' | none => .bad) = _
  rw [if_pos hl]
theorem runD_ret {m k : Nat} {g : Ex} {ds : List D} {st : Option (List MO)} {d : D} {s' : Sta} (hl : ds.length = m) (h : g ⟨ds.map .v ++ List.replicate k .un, st⟩ = .ret d s') : runD m g k ds st = .ok d s' := by unfold runD; rw [if_pos hl, h]; rfl
end
end Dz
namespace Dz
open PySem PySem.Spec PyProof.Rows L2
section
variable {s s1 s2 s3 : Sta} {f g h : Ev} {d e x : D} {i j k : Int} {n : Nat} {b c : Bool} {t u : Sta → Res Bool}
theorem ed_isi {T : Ty5} {x : P} {fp : Sta → Res Pk} (hf : fp s = .ok (.d (.p x)) s) : EvB (bnd fp (fnK (isiP T))) s (isiB x T) := ed_fn hf rfl
theorem mapM_unP : ∀ ys : List P, (ys.map D.p).mapM unP = some ys
  | [] => rfl
  | y :: ys => by rw [List.map_cons, List.mapM_cons, mapM_unP ys]; rfl
theorem eb_in {x : P} {ys : List P} {fp : Sta → Res Pk} (hf : EvD f s (.p x)) (hk : fp s = .ok (.d (.p (.lst ys))) s) (hd : min (deep x) (deepL ys) ≤ 60) : EvB (inE false f fp) s (ys.any fun z => eqP z x) := by
  unfold EvB inE
  rw [bnd_ok hf, bnd_ok hk]
  unfold inPD
  have e : inPk (.p x) (.d (.p (.lst ys))) s = some (ys.any fun z => eqP z x) := by
    show inB (.p x) (.p (.lst ys)) s = _
    have e2 := mapM_unP ys
    unfold inB
    cases x <;> simp only [seqOf, e2] <;> rw [if_pos hd]
  rw [e]
  rfl
theorem ixV_st {i : Nat} {d e x : D} (h : s.sl[i]? = some (.v d)) (hg : g s = .ok e s2) (h2 : s2.sl[i]? = some (.v d)) (hx : ixO d e s2 = some x) : ixV i g s = .ok x s2 := by
  unfold ixV
  rw [bnd_ok (ep_pk h), bnd_ok hg, bnd_ok (ep_pk h2)]
  show (match ixO d e s2 with | some x => Res.ok x s2 | none => .bad) = _
  rw [hx]
theorem mkTup_ok {xs : List P} (h : xs.length ≤ sizeLine) : mkTup (xs.map .p) s = .ok (.p (.tup xs)) s := by
  have e2 := mapM_unP xs
  unfold mkTup
  rw [if_pos (by simpa using h)]
  simp only [e2]
end
end Dz
namespace Dz
open PySem PySem.Spec PyProof.Rows L2
/-! ### statements by what is wanted behind them -/
structure Po where
  nx : Sta → Prop
  rt : D → Sta → Prop
  ct : Sta → Prop
  bk : Sta → Prop
def Wp (r : Fl) (Q : Po) : Prop := match r with
  | .nx s => Q.nx s
  | .ret d s => Q.rt d s
  | .cnt s => Q.ct s
  | .brk s => Q.bk s
  | _ => False
section
variable {α : Type} {s s1 s2 s3 : Sta} {f g h : Ex} {d e x : D} {i j k : Int} {n : Nat} {b c : Bool} {t u : Sta → Res Bool} {Q Q' : Po} {fe ge : Ev} {a : α}
theorem Wp.mono {r : Fl} (h : Wp r Q) (h1 : ∀ s, Q.nx s → Q'.nx s) (h2 : ∀ d s, Q.rt d s → Q'.rt d s) (h3 : ∀ s, Q.ct s → Q'.ct s) (h4 : ∀ s, Q.bk s → Q'.bk s) : Wp r Q' := by
  cases r with
  | nx s => exact h1 _ h
  | ret d s => exact h2 _ _ h
  | cnt s => exact h3 _ h
  | brk s => exact h4 _ h
  | ex _ _ => exact h.elim
  | bad => exact h.elim
theorem wp_eq {r r' : Fl} (e : r = r') (h : Wp r' Q) : Wp r Q := by rw [e]; exact h
theorem wp_skip (h : Q.nx s) : Wp (skip s) Q := h
theorem wp_brk (h : Q.bk s) : Wp (brkS s) Q := h
theorem wp_cnt (h : Q.ct s) : Wp (cntS s) Q := h
theorem wp_seq (h : Wp (f s) ⟨fun s1 => Wp (g s1) Q, Q.rt, Q.ct, Q.bk⟩) : Wp (seqS f g s) Q := by
  unfold seqS
  revert h
  cases f s <;> exact id
theorem wp_bnd {fe : Sta → Res α} {k : α → Ex} (he : fe s = .ok a s1) (h : Wp (k a s1) Q) : Wp (bndS fe k s) Q := by rw [bndS_ok he]; exact h
theorem wp_set (he : EvD fe s d) (h : Q.nx ⟨s.sl.set n (.v d), s.st⟩) : Wp (bndS fe (setV n) s) Q := wp_bnd he h
theorem wp_ret (he : EvD fe s d) (h : Q.rt d s) : Wp (bndS fe retS s) Q := wp_bnd he h
theorem wp_if (ht : t s = .ok b s1) (h1 : b = true → Wp (f s1) Q) (h2 : b = false → Wp (g s1) Q) : Wp (ifS t f g s) Q := by
  unfold ifS
  rw [bndS_ok ht]
  cases b
  · exact h2 rfl
  · exact h1 rfl
theorem wp_loop {t : Tg} {b : Ex} (I : Nat → Sta → Prop) : ∀ (ds : List D) (n : Nat) (s : Sta), (∀ k d s, ds[k]? = some d → I (n + k) s → ∃ s1, t d s = some s1 ∧ Wp (b s1) ⟨I (n + k + 1), Q.rt, I (n + k + 1), Q.nx⟩) → I n s → (∀ s, I (n + ds.length) s → Q.nx s) → Wp (loopS t b ds s) Q
  | [], n, s, _, hs, hq => hq s hs
  | d :: ds, n, s, h, hs, hq => by
    obtain ⟨s1, e1, h1⟩ := h 0 d s rfl hs
    simp only [loopS, e1]
    have go : ∀ s2, I (n + 1) s2 → Wp (loopS t b ds s2) Q := fun s2 h2 => wp_loop I ds (n + 1) s2 (fun k d s e hi => by
      have := h (k + 1) d s (by simpa using e) (by rw [show n + (k + 1) = n + 1 + k by omega]; exact hi)
      rw [show n + (k + 1) + 1 = n + 1 + k + 1 by omega] at this
      exact this) h2 fun s hi => hq s (by rw [List.length_cons, show n + (ds.length + 1) = n + 1 + ds.length by omega]; exact hi)
    revert h1
    cases b s1 with
    | nx s2 => exact fun h1 => go s2 h1
    | cnt s2 => exact fun h1 => go s2 h1
    | brk s2 => exact id
    | ret d s2 => exact id
    | ex _ _ => exact id
    | bad => exact id
theorem wp_for {fi : Sta → Res (List D)} {t : Tg} {b : Ex} {ds : List D} (I : Nat → Sta → Prop) (hf : fi s = .ok ds s1) (h0 : I 0 s1) (h : ∀ k d s, ds[k]? = some d → I k s → ∃ s1, t d s = some s1 ∧ Wp (b s1) ⟨I (k + 1), Q.rt, I (k + 1), Q.nx⟩) (hq : ∀ s, I ds.length s → Q.nx s) : Wp (forS fi t b s) Q := by
  unfold forS
  rw [bndS_ok hf]
  exact wp_loop I ds 0 s1 (fun k d s e hi => by have := h k d s e (by simpa using hi); simpa using this) h0 (by simpa using hq)
/-- a walk over range(j) -/
theorem wp_rng {fa : Sta → Res (List D)} {i : Nat} {b : Ex} {j : Nat} (I : Nat → Sta → Prop) (hf : fa s = .ok [.p (.int j)] s1) (hj : j < 2 ^ 62) (h0 : I 0 s1) (h : ∀ k s, k < j → I k s → Wp (b ⟨s.sl.set i (.v (.p (.int k))), s.st⟩) ⟨I (k + 1), Q.rt, I (k + 1), Q.nx⟩) (hq : ∀ s, I j s → Q.nx s) : Wp (forS (bnd fa rng1) (nameG i) b s) Q := by
  refine wp_for (ds := rngL 0 j) I ?_ h0 (fun k d s ek hi => ?_) fun s hi => hq s (by rwa [rngL_len] at hi)
  · rw [bnd_ok hf]
    unfold rng1
    simp only
    rw [if_pos ⟨by omega, by omega⟩]
    rfl
  · obtain ⟨hk, rfl⟩ := rngL_at ek
    refine ⟨_, rfl, ?_⟩
    rw [Int.zero_add]
    exact h k s hk hi
theorem wp_while {t : Sta → Res Bool} {b : Ex} (I : Sta → Prop) (μ : Sta → Nat) (h : ∀ s, I s → (∃ s1, t s = .ok false s1 ∧ Q.nx s1) ∨ ∃ s1, t s = .ok true s1 ∧ Wp (b s1) ⟨fun s2 => I s2 ∧ μ s2 < μ s, Q.rt, fun s2 => I s2 ∧ μ s2 < μ s, Q.nx⟩) : ∀ (n : Nat) (s : Sta), I s → μ s < n → Wp (whileS t b n s) Q
  | 0, _, _, hm => by omega
  | n + 1, s, hs, hm => by
    rw [whileS]
    rcases h s hs with ⟨s1, e, hq⟩ | ⟨s1, e, hb⟩
    · rw [bndS_ok e]; exact hq
    · rw [bndS_ok e, if_pos rfl]
      revert hb
      cases b s1 with
      | nx s2 => exact fun hb => wp_while I μ h n s2 hb.1 (by have := hb.2; omega)
      | cnt s2 => exact fun hb => wp_while I μ h n s2 hb.1 (by have := hb.2; omega)
      | brk s2 => exact id
      | ret d s2 => exact id
      | ex _ _ => exact id
      | bad => exact id
theorem wp_app {xs : List P} {y : P} (h : s.sl[n]? = some (.lin (.lst xs))) (hf : EvD fe s (.p y)) (hl : xs.length < sizeLine) (hq : Q.nx ⟨s.sl.set n (.lin (.lst (xs ++ [y]))), s.st⟩) : Wp (appV n fe s) Q := by rw [es_app h hf hl]; exact hq
/-- a def from its body -/
def RetO (R : D → Sta → Prop) : Po := ⟨fun s => R (.p .non) s, R, fun _ => False, fun _ => False⟩
theorem run_wp {m k : Nat} {g : Ex} {ds : List D} {st : Option (List MO)} {R : D → Sta → Prop} (hl : ds.length = m) (h : Wp (g ⟨ds.map .v ++ List.replicate k .un, st⟩) (RetO R)) : ∃ d s, runD m g k ds st = .ok d s ∧ R d s := by
  unfold runD
  rw [if_pos hl]
  revert h
  cases g ⟨ds.map .v ++ List.replicate k .un, st⟩ with
  | nx s => exact fun h => ⟨_, _, rfl, h⟩
  | ret d s => exact fun h => ⟨_, _, rfl, h⟩
  | cnt s => exact fun h => h.elim
  | brk s => exact fun h => h.elim
  | ex _ _ => exact fun h => h.elim
  | bad => exact fun h => h.elim
end
end Dz
namespace Dz
open PySem PySem.Spec PyProof.Rows L2
section
variable {K : PySem.W.Frag} {h : Heap} {mg : Str → Option Value}
/-! ### from what the top leaves to the promises -/
/-- what k_is tells of a def -/
structure DefK (K : PySem.W.Frag) (x : Str) (st : Stmt) (f : Addr) (oc kV dc pm cd ct : Value) (od an : Option Addr) (sl : Array (Option Value)) : Prop where
  a : PySem.W.nsIn K mainGlobals x = some (some (.ref f))
  l : K.lookup f = some ⟨oc, od, .func (PySem.W.fnOf x x (defArgs st) (defBody st) (defScope st) .none kV dc pm an cd ct), sl⟩
  c : PySem.W.codeIn K cd x = true
  k : PySem.W.keepIn K (.ref f) = true
theorem DefK.here {x : Str} {st : Stmt} {f : Addr} {oc kV dc pm cd ct : Value} {od an : Option Addr} {sl : Array (Option Value)} {ps : List Str} (D : DefK K x st f oc kV dc pm cd ct od an sl) (X : K.In h) (G : h.Ns mainGlobals mg)
    (hb : ∀ (kV doc pm : Value) (an : Option Addr) (cdv ct : Value) (us : List Value), us.length = ps.length → bindArgs (PySem.W.fnOf x x (defArgs st) (defBody st) (defScope st) .none kV doc pm an cdv ct) ⟨us, []⟩ = pure (ps.zip us)) : HereD K mg x st ps := by
  have F := fun_mk (st := st) D.l D.c D.k
  exact ⟨f, _, F, PySem.W.mg_of X G D.a, F.binds hb⟩
def atomV : P → Option V
  | .non => some .non
  | .bl b => some (.bl b)
  | .int i => some (.int i)
  | .str x => some (.str x)
  | _ => none
theorem atom_td {q : Bool} {H : Hp} {I : Addr → Prop} : ∀ {x : P} {v : V}, atomV x = some v → Td K q H I x v
  | .non, _, e => by cases e; exact .non
  | .bl b, _, e => by cases e; exact .bl b
  | .int i, _, e => by cases e; exact .int i
  | .str x, _, e => by cases e; exact .str x
  | .lst _, _, e => by cases e
  | .tup _, _, e => by cases e
theorem relV_abs {u : Value} {x : V} (e : absV u = some x) : RelV x u := by
  cases u <;> simp [absV] at e <;> subst e <;> first | rfl | exact ⟨_, rfl⟩
theorem vals_abs : ∀ {us : List Value} {xs : List V}, us.map absV = xs.map some → Vals xs us
  | [], [], _ => .nil
  | [], _ :: _, e => by cases e
  | _ :: _, [], e => by cases e
  | u :: us, x :: xs, e => by
    rw [List.map_cons, List.map_cons] at e
    injection e with e1 e2
    exact .cons (relV_abs e1) (vals_abs e2)
theorem atoms_td {q : Bool} {H : Hp} {I : Addr → Prop} : ∀ {xs : List P} {vs : List V}, xs.map atomV = vs.map some → TdL K q H I xs vs
  | [], [], _ => .nil
  | [], _ :: _, e => by cases e
  | _ :: _, [], e => by cases e
  | x :: xs, v :: vs, e => by
    rw [List.map_cons, List.map_cons] at e
    injection e with e1 e2
    exact .cons (atom_td e1) (atoms_td e2)
theorem cst_int {x : Str} {n : Int} {t : Tok} (X : K.In h) (G : h.Ns mainGlobals mg) (a : PySem.W.nsIn K mainGlobals x = some (some (.int n t))) : Cst K mg x (.p (.int n)) :=
  ⟨_, .int n, PySem.W.mg_of X G a, ⟨t, rfl⟩, fun _ _ => .p (.int n)⟩
theorem cst_str {x z z' : Str} {t : Tok} (X : K.In h) (G : h.Ns mainGlobals mg) (a : PySem.W.nsIn K mainGlobals x = some (some (.str z t))) (e : z = z') : Cst K mg x (.p (.str z')) := by
  subst e
  exact ⟨_, .str z, PySem.W.mg_of X G a, ⟨t, rfl⟩, fun _ _ => .p (.str z)⟩
theorem cst_tup {x : Str} {p : Addr} {dd : Option Addr} {its : Array Value} {n : Nat} {sl : Array (Option Value)} {xs : List P} (vs : List V) (X : K.In h) (G : h.Ns mainGlobals mg) (a : PySem.W.nsIn K mainGlobals x = some (some (.ref p)))
    (l : K.lookup p = some ⟨.type "tuple", dd, .seq its n, sl⟩) (e : its.toList.map absV = vs.map some) (e2 : xs.map atomV = vs.map some) (hz : decide (vs.length ≤ sizeLine) = true) : Cst K mg x (.kt xs) := by
  have hv := vals_abs e
  have hl := Paired.length hv
  refine ⟨_, .ref p, PySem.W.mg_of X G a, rfl, fun H w => .kt (vs := vs) (fun H => .inr ⟨_, its, n, l, rfl, rfl, ?_, hv⟩) fun H => atoms_td e2⟩
  have h2 := of_decide_eq_true hz
  rw [← Array.length_toList]
  omega
/-- the law's promise -/
def spLaw (K : PySem.W.Frag) : Sp := fun vs H Q _ => ∃ (a : Addr) (ns : List Int), vs = [.ref a] ∧ ns.length ≤ 63 ∧ Only H ∧ SqL K H a (ns.map V.int) ∧ ∀ H', Q (.bl true) H'
theorem ints_td {q : Bool} {H : Hp} {I : Addr → Prop} : ∀ ns : List Int, TdL K q H I (ns.map P.int) (ns.map V.int)
  | [] => .nil
  | n :: ns => .cons (.int n) (ints_td ns)
theorem law_sp {m : Fn} (hm : ∀ ns : List Int, ns.length ≤ 63 → ∃ s, m [.fz (ns.map .int)] (some []) = .ok (.p (.bl true)) s) {vs : List V} {H : Hp} {Q : VK} {E : XK} (h : spLaw K vs H Q E) : spD K mg m vs H Q E := by
  obtain ⟨a, ns, rfl, hl, hO, hS, hQ⟩ := h
  obtain ⟨s, e⟩ := hm ns hl
  refine ⟨⟨[], fun b => H b ≠ none⟩, [.fz (ns.map .int)], some [], ⟨.nil, fun _ z => (nomatch z), fun _ z => (nomatch z), fun b z => z⟩, ⟨rfl, fun n a m z => by simp at z⟩, .cons (.fz ?_ (ints_td ns)) .nil, ?_⟩
  · rcases hS with h | h
    · rcases h with h | ⟨o, h⟩
      · rcases hO a with z | ⟨o, xs, z⟩
        · rw [h] at z; cases z
        · rw [h] at z; cases z
      · exact .inl ⟨o, h, by show H a ≠ none; rw [h]; simp⟩
    · exact .inr fun H => .inr h
  · rw [e]
    intro v w' H' _ _ _ hv
    cases hv with
    | p t => cases t; exact hQ H'
theorem law_fn {P : Program} {w : World} {base : Heap} {lv : Nat} {fa : Addr} {fd : FuncData} {m : Fn} (hm : ∀ ns : List Int, ns.length ≤ 63 → ∃ s, m [.fz (ns.map .int)] (some []) = .ok (.p (.bl true)) s)
    (F : FnOk P w K mg base (L2.CX P w) lv fa fd ["script"] (spD K mg m)) : FnOk P w K mg base (L2.CX P w) lv fa fd ["script"] (spLaw K) :=
  ⟨fun vs H Q E h => F.1 vs H Q E (law_sp hm h), fun A outer s H args us vs Q E a b c d h => F.2 A outer s H args us vs Q E a b c d (law_sp hm h)⟩
theorem law_end {P : Program} {w : World} {base : Heap} {lv : Nat} {fa : Addr} {m : Fn} (hm : ∀ ns : List Int, ns.length ≤ 63 → ∃ s, m [.fz (ns.map .int)] (some []) = .ok (.p (.bl true)) s)
    (F : HasD P w K mg base lv "law" ["script"] m) (e : mg "law" = some (.ref fa)) : ∃ fd : FuncData, FnOk P w K mg base (L2.CX P w) lv fa fd ["script"] (spLaw K) := by
  obtain ⟨fa', fd, F1, e1, _, _⟩ := F.here
  rw [e] at e1
  cases e1
  exact ⟨fd, law_fn hm F1⟩
end
end Dz
namespace K20
open PySem PySem.Spec PyProof.Rows L2 Dz
def topS (i : Nat) : Stmt := PySem.Challenge.pw_oneowner_k20_allocators_and_what_is_none.main.body.getD i (.Pass ⟨0, 0, 0, 0⟩)
def fuel : Nat := 1099511627776
def k_POLICIES : D := (.kt [(.str "first"), (.str "best"), (.str "next"), (.str "bump")])
def k_UNITS : D := (.kt [(.int 1), (.int 2), (.int 4), (.int 8)])
def k_MOST_UNIT : D := (.p (.int 8))
section
variable {P : Program} {wd : World} {K : PySem.W.Frag} {mg : Str → Option Value} {base : Heap}
abbrev s_is_index : Stmt := topS 1
theorem sc_is_index : FnScope ["thing", "many"] ["thing", "many"] (defScope s_is_index) := ⟨rfl, rfl, rfl, by decide +kernel, rfl, by decide +kernel, by decide +kernel⟩
def g_is_index : Ex := (bndS (andE (bnd (pk 0) (fnK (isiP .int))) (andE (notE (bnd (pk 0) (fnK (isiP .bool)))) (chainE (cst (.p (.int 0))) leD (rd 0) ltD (rd 1)))) retS)
def m_is_index : Fn := runD 2 g_is_index 0
theorem ok_is_index (z_bool : mg "bool" = none) (z_int : mg "int" = none) (z_isinstance : mg "isinstance" = none) (h : HereD K mg "is_index" s_is_index ["thing", "many"]) : HasD P wd K mg base 1 "is_index" ["thing", "many"] m_is_index := h.has fun fa fd F => fnB F sc_is_index rfl fun cdv A outer s0 H0 E G hr hu px po =>
    have nd := sc_is_index.nd
    (dss_one (ds_ret (de_and (de_isi (T := .int) (by rfl) z_isinstance (by rfl) z_int (by decide +kernel) (dp_var (i := 0))) (de_and (de_not (de_isi (T := .bool) (by rfl) z_isinstance (by rfl) z_bool (by decide +kernel) (dp_var (i := 0)))) (de_one (de_chain op_le u_le op_lt u_lt de_int (de_rd (i := 0)) (de_rd (i := 1)) ))))))
abbrev s_is_row : Stmt := topS 2
theorem sc_is_row : FnScope ["thing", "least", "most"] ["thing", "least", "most"] (defScope s_is_row) := ⟨rfl, rfl, rfl, by decide +kernel, rfl, by decide +kernel, by decide +kernel⟩
def g_is_row : Ex := (bndS (andE (bnd (pk 0) (fnK (isiP .tuple))) (chainE (rd 1) leD (bnd (pk 0) (fnK lenP)) leD (rd 2))) retS)
def m_is_row : Fn := runD 3 g_is_row 0
theorem ok_is_row (z_isinstance : mg "isinstance" = none) (z_len : mg "len" = none) (z_tuple : mg "tuple" = none) (h : HereD K mg "is_row" s_is_row ["thing", "least", "most"]) : HasD P wd K mg base 1 "is_row" ["thing", "least", "most"] m_is_row := h.has fun fa fd F => fnB F sc_is_row rfl fun cdv A outer s0 H0 E G hr hu px po =>
    have nd := sc_is_row.nd
    (dss_one (ds_ret (de_and (de_isi (T := .tuple) (by rfl) z_isinstance (by rfl) z_tuple (by decide +kernel) (dp_var (i := 0))) (de_one (de_chain op_le u_le op_le u_le (de_rd (i := 1)) (de_len (by rfl) z_len (dp_var (i := 0))) (de_rd (i := 2)) )))))
abbrev s_is_allocator : Stmt := topS 7
theorem sc_is_allocator : FnScope ["thing"] ["thing"] (defScope s_is_allocator) := ⟨rfl, rfl, rfl, by decide +kernel, rfl, by decide +kernel, by decide +kernel⟩
def g_is_allocator : Ex := (seqS (ifS (notT (bnd (asPk (callP m_is_row (consA (rd 0) (consA (cst (.p (.int 2))) (consA (cst (.p (.int 2))) nilA))))) truPR)) (bndS (cst (.p (.bl false))) retS) skip) (bndS (andE (inE false (ixV 0 (cst (.p (.int 0)))) (asPk (cst k_POLICIES))) (andE (callP m_is_index (consA (ixV 0 (cst (.p (.int 1)))) (consA (bnd2 (cst k_MOST_UNIT) (cst (.p (.int 1))) addD) nilA))) (inE false (ixV 0 (cst (.p (.int 1)))) (asPk (cst k_UNITS))))) retS))
def m_is_allocator : Fn := runD 1 g_is_allocator 0
theorem ok_is_allocator (h_is_index : HasD P wd K mg base 1 "is_index" ["thing", "many"] m_is_index) (h_is_row : HasD P wd K mg base 1 "is_row" ["thing", "least", "most"] m_is_row) (c_MOST_UNIT : Cst K mg "MOST_UNIT" k_MOST_UNIT) (c_POLICIES : Cst K mg "POLICIES" k_POLICIES) (c_UNITS : Cst K mg "UNITS" k_UNITS) (h : HereD K mg "is_allocator" s_is_allocator ["thing"]) : HasD P wd K mg base 2 "is_allocator" ["thing"] m_is_allocator := h.has fun fa fd F => fnB F sc_is_allocator rfl fun cdv A outer s0 H0 E G hr hu px po =>
    have nd := sc_is_allocator.nd
    (dss_cons (ds_if (dt_not (dt_truP (dp_of (de_callP h_is_row hr (by first | decide | omega | (simp only [Nat.add_eq, Nat.succ_eq_add_one]; omega)) px (by rfl) (da_cons (de_rd (i := 0)) (da_cons de_int (da_cons de_int da_nil))))))) (dss_one (ds_ret de_bl)) dss_nil) (dss_one (ds_ret (de_and (de_inP hu (de_ixV (i := 0) hu de_int) (dp_of (de_glob c_POLICIES (by rfl)))) (de_and (de_callP h_is_index hr (by first | decide | omega | (simp only [Nat.add_eq, Nat.succ_eq_add_one]; omega)) px (by rfl) (da_cons (de_ixV (i := 0) hu de_int) (da_cons (de_add (de_glob c_MOST_UNIT (by rfl)) de_int) da_nil))) (de_one (de_inP hu (de_ixV (i := 0) hu de_int) (dp_of (de_glob c_UNITS (by rfl))))))))))
abbrev s__law_draws : Stmt := topS 9
theorem sc__law_draws : FnScope ["script", "draws", "k", "cell", "turn", "mixed"] ["script"] (defScope s__law_draws) := ⟨rfl, rfl, rfl, by decide +kernel, rfl, by decide +kernel, by decide +kernel⟩
def g__law_draws : Ex := (seqS (bndS (bnd nilA mkLin) (setL 1)) (seqS (forS (bnd (consA (bnd (consA (bnd (pk 0) (fnK lenP)) (consA (cst (.p (.int 63))) nilA)) minD) nilA) rng1) (nameG 2) (seqS (bndS (bnd (asPk (ixV 0 (rd 2))) (fnK absP)) (setV 3)) (ifS (bnd (bnd2 (rd 3) (bnd2 (cst (.p (.int 10))) (cst (.p (.int 18))) powD) geD) isBl) (forS (bnd (consA (cst (.p (.int 20))) nilA) rng1) (nameG 4) (ifS (bnd (bnd2 (rd 3) (cst (.p (.int 0))) gtD) isBl) (seqS (appV 1 (bnd2 (rd 3) (cst (.p (.int 1000))) modD)) (bndS (bnd2 (rd 3) (cst (.p (.int 1000))) fdivD) (setV 3))) skip)) (seqS (bndS (bnd2 (bnd (asPk (bnd2 (bnd2 (bnd2 (ixV 0 (rd 2)) (cst (.p (.int 48271))) mulD) (bnd2 (rd 2) (cst (.p (.int 69621))) mulD) addD) (cst (.p (.int 12345))) addD)) (fnK intP)) (cst (.p (.int 2147483647))) modD) (setV 5)) (forS (bnd (consA (cst (.p (.int 3))) nilA) rng1) (nameG 4) (seqS (bndS (bnd2 (bnd (asPk (bnd2 (bnd2 (bnd2 (rd 5) (rd 5) mulD) (bnd2 (rd 4) (cst (.p (.int 7919))) mulD) addD) (cst (.p (.int 17))) addD)) (fnK intP)) (cst (.p (.int 2147483629))) modD) (setV 5)) (appV 1 (bnd2 (rd 5) (cst (.p (.int 1000))) modD)))))))) (bndS (rd 1) retS)))
def m__law_draws : Fn := runD 1 g__law_draws 5
theorem ok__law_draws (z_abs : mg "abs" = none) (z_int : mg "int" = none) (z_len : mg "len" = none) (z_min : mg "min" = none) (z_range : mg "range" = none) (h : HereD K mg "_law_draws" s__law_draws ["script"]) : HasD P wd K mg base 1 "_law_draws" ["script"] m__law_draws := h.has fun fa fd F => fnB F sc__law_draws rfl fun cdv A outer s0 H0 E G hr hu px po =>
    have nd := sc__law_draws.nd
    (dss_cons (ds_setl (i := 1) nd rfl (by first | exact Or.inl rfl | exact Or.inr rfl) (df_lst da_nil)) (dss_cons (ds_for po rfl (di_rng1 (by rfl) z_range (da_cons (de_min2 rfl (by rfl) z_min (da_cons (de_len (by rfl) z_len (dp_var (i := 0))) (da_cons de_int da_nil))) da_nil)) (dg_name (i := 2) nd rfl (by first | exact Or.inl rfl | exact Or.inr rfl)) (dss_cons (ds_set (i := 3) nd rfl (by first | exact Or.inl rfl | exact Or.inr rfl) (de_abs (by rfl) z_abs (dp_of (de_ixV (i := 0) hu (de_rd (i := 2)))))) (dss_one (ds_if (dt_ge (de_rd (i := 3)) (de_pow de_int de_int)) (dss_one (ds_for po rfl (di_rng1 (by rfl) z_range (da_cons de_int da_nil)) (dg_name (i := 4) nd rfl (by first | exact Or.inl rfl | exact Or.inr rfl)) (dss_one (ds_if (dt_gt (de_rd (i := 3)) de_int) (dss_cons (ds_appV (i := 1) (de_mod (de_rd (i := 3)) de_int)) (dss_one (ds_set (i := 3) nd rfl (by first | exact Or.inl rfl | exact Or.inr rfl) (de_fdiv (de_rd (i := 3)) de_int)))) dss_nil)))) (dss_cons (ds_set (i := 5) nd rfl (by first | exact Or.inl rfl | exact Or.inr rfl) (de_mod (de_intc (by rfl) z_int (dp_of (de_add (de_add (de_mul (de_ixV (i := 0) hu (de_rd (i := 2))) de_int) (de_mul (de_rd (i := 2)) de_int)) de_int))) de_int)) (dss_one (ds_for po rfl (di_rng1 (by rfl) z_range (da_cons de_int da_nil)) (dg_name (i := 4) nd rfl (by first | exact Or.inl rfl | exact Or.inr rfl)) (dss_cons (ds_set (i := 5) nd rfl (by first | exact Or.inl rfl | exact Or.inr rfl) (de_mod (de_intc (by rfl) z_int (dp_of (de_add (de_add (de_mul (de_rd (i := 5)) (de_rd (i := 5))) (de_mul (de_rd (i := 4)) de_int)) de_int))) de_int)) (dss_one (ds_appV (i := 1) (de_mod (de_rd (i := 5)) de_int))))))))))) (dss_one (ds_ret (de_rd (i := 1))))))
abbrev s__law_reader : Stmt := topS 10
theorem sc__law_reader : FnScope ["script", "row", "seed"] ["script"] (defScope s__law_reader) := ⟨rfl, rfl, rfl, by decide +kernel, rfl, by decide +kernel, by decide +kernel⟩
def g__law_reader : Ex := (seqS (bndS (callP m__law_draws (consA (rd 0) nilA)) (setV 1)) (seqS (bndS (cst (.p (.int 5))) (setV 2)) (seqS (ifS (bnd (bnd2 (bnd (pk 0) (fnK lenP)) (cst (.p (.int 0))) gtD) isBl) (bndS (bnd2 (bnd (asPk (ixV 0 (bnd (cst (.p (.int 1))) negD))) (fnK absP)) (cst (.p (.int 1000003))) modD) (setV 2)) skip) (bndS (dispS ((.inr "row", (rd 1)) :: ((.inr "at", (cst (.p (.int 0)))) :: ((.inr "seed", (rd 2)) :: [])))) retS))))
def m__law_reader : Fn := runD 1 g__law_reader 2
theorem ok__law_reader (h__law_draws : HasD P wd K mg base 1 "_law_draws" ["script"] m__law_draws) (z_abs : mg "abs" = none) (z_len : mg "len" = none) (h : HereD K mg "_law_reader" s__law_reader ["script"]) : HasD P wd K mg base 2 "_law_reader" ["script"] m__law_reader := h.has fun fa fd F => fnB F sc__law_reader rfl fun cdv A outer s0 H0 E G hr hu px po =>
    have nd := sc__law_reader.nd
    (dss_cons (ds_set (i := 1) nd rfl (by first | exact Or.inl rfl | exact Or.inr rfl) (de_callP h__law_draws hr (by first | decide | omega | (simp only [Nat.add_eq, Nat.succ_eq_add_one]; omega)) px (by rfl) (da_cons (de_rd (i := 0)) da_nil))) (dss_cons (ds_set (i := 2) nd rfl (by first | exact Or.inl rfl | exact Or.inr rfl) de_int) (dss_cons (ds_if (dt_gt (de_len (by rfl) z_len (dp_var (i := 0))) de_int) (dss_one (ds_set (i := 2) nd rfl (by first | exact Or.inl rfl | exact Or.inr rfl) (de_mod (de_abs (by rfl) z_abs (dp_of (de_ixV (i := 0) hu (de_neg de_int)))) de_int))) dss_nil) (dss_one (ds_ret (de_dispS (.cons pe_str (fun _ _ => (de_rd (i := 1))) (.cons pe_str (fun _ _ => de_int) (.cons pe_str (fun _ _ => (de_rd (i := 2))) .nil)))))))))
abbrev s__law_next : Stmt := topS 11
theorem sc__law_next : FnScope ["draws", "many", "at", "mixed"] ["draws", "many"] (defScope s__law_next) := ⟨rfl, rfl, rfl, by decide +kernel, rfl, by decide +kernel, by decide +kernel⟩
def g__law_next : Ex := (seqS (bndS (ixV 0 (cst (.p (.str "at")))) (setV 2)) (seqS (putV 0 (cst (.p (.str "at"))) (bnd2 (rd 2) (cst (.p (.int 1))) addD)) (seqS (ifS (bnd (bnd2 (rd 2) (bnd (asPk (ixV 0 (cst (.p (.str "row"))))) (fnK lenP)) ltD) isBl) (bndS (bnd2 (bnd (asPk (bnd2 (ixV 0 (cst (.p (.str "row")))) (rd 2) ixD)) (fnK intP)) (rd 1) modD) retS) skip) (seqS (bndS (bnd2 (bnd (asPk (bnd2 (bnd2 (bnd2 (ixV 0 (cst (.p (.str "seed")))) (bnd2 (cst (.p (.int 17))) (rd 2) mulD) addD) (cst (.p (.int 3))) addD) (cst (.p (.int 48271))) mulD)) (fnK intP)) (cst (.p (.int 2147483647))) modD) (setV 3)) (bndS (bnd2 (bnd2 (bnd2 (bnd (asPk (bnd2 (bnd2 (rd 3) (rd 3) mulD) (rd 2) addD)) (fnK intP)) (cst (.p (.int 2147483629))) modD) (cst (.p (.int 7))) fdivD) (rd 1) modD) retS)))))
def m__law_next : Fn := runD 2 g__law_next 2
theorem ok__law_next (z_int : mg "int" = none) (z_len : mg "len" = none) (h : HereD K mg "_law_next" s__law_next ["draws", "many"]) : HasD P wd K mg base 1 "_law_next" ["draws", "many"] m__law_next := h.has fun fa fd F => fnB F sc__law_next rfl fun cdv A outer s0 H0 E G hr hu px po =>
    have nd := sc__law_next.nd
    (dss_cons (ds_set (i := 2) nd rfl (by first | exact Or.inl rfl | exact Or.inr rfl) (de_ixV (i := 0) hu de_str)) (dss_cons (ds_putV (i := 0) hu de_str (de_add (de_rd (i := 2)) de_int)) (dss_cons (ds_if (dt_lt (de_rd (i := 2)) (de_len (by rfl) z_len (dp_of (de_ixV (i := 0) hu de_str)))) (dss_one (ds_ret (de_mod (de_intc (by rfl) z_int (dp_of (de_ix hu (de_ixV (i := 0) hu de_str) (de_rd (i := 2))))) (de_rd (i := 1))))) dss_nil) (dss_cons (ds_set (i := 3) nd rfl (by first | exact Or.inl rfl | exact Or.inr rfl) (de_mod (de_intc (by rfl) z_int (dp_of (de_mul (de_add (de_add (de_ixV (i := 0) hu de_str) (de_mul de_int (de_rd (i := 2)))) de_int) de_int))) de_int)) (dss_one (ds_ret (de_mod (de_fdiv (de_mod (de_intc (by rfl) z_int (dp_of (de_add (de_mul (de_rd (i := 3)) (de_rd (i := 3))) (de_rd (i := 2))))) de_int) de_int) (de_rd (i := 1)))))))))
abbrev s__law_part : Stmt := topS 12
theorem sc__law_part : FnScope ["draws", "parts"] ["draws"] (defScope s__law_part) := ⟨rfl, rfl, rfl, by decide +kernel, rfl, by decide +kernel, by decide +kernel⟩
def g__law_part : Ex := (seqS (bndS (frz (bnd (consA (cst (.p (.str "first"))) (consA (cst (.p (.str "best"))) (consA (cst (.p (.str "next"))) (consA (cst (.p (.str "bump"))) (consA (cst (.p (.str "worst"))) (consA (cst (.p (.str ""))) (consA (cst (.p (.int 1))) (consA (cst (.p (.int 2))) (consA (cst (.p (.int 4))) (consA (cst (.p (.int 8))) (consA (cst (.p (.int 0))) (consA (cst (.p (.int 3))) (consA (cst (.p (.int 16))) (consA (cst (.p (.bl true))) (consA (cst (.p (.bl false))) (consA (cst (.p .non)) (consA (bnd nilA mkTup) (consA (bnd (consA (cst (.p (.str "first"))) nilA) mkTup) nilA)))))))))))))))))) mkLin)) (setV 1)) (bndS (ixV 1 (callS m__law_next (consA (rd 0) (consA (bnd (pk 1) (fnK lenP)) nilA)))) retS))
def m__law_part : Fn := runD 1 g__law_part 1
theorem ok__law_part (h__law_next : HasD P wd K mg base 1 "_law_next" ["draws", "many"] m__law_next) (z_len : mg "len" = none) (h : HereD K mg "_law_part" s__law_part ["draws"]) : HasD P wd K mg base 2 "_law_part" ["draws"] m__law_part := h.has fun fa fd F => fnB F sc__law_part rfl fun cdv A outer s0 H0 E G hr hu px po =>
    have nd := sc__law_part.nd
    (dss_cons (ds_set (i := 1) nd rfl (by first | exact Or.inl rfl | exact Or.inr rfl) (de_frz (df_lst (da_cons de_str (da_cons de_str (da_cons de_str (da_cons de_str (da_cons de_str (da_cons de_str (da_cons de_int (da_cons de_int (da_cons de_int (da_cons de_int (da_cons de_int (da_cons de_int (da_cons de_int (da_cons de_bl (da_cons de_bl (da_cons de_non (da_cons (de_tup da_nil) (da_cons (de_tup (da_cons de_str da_nil)) da_nil))))))))))))))))))))) (dss_one (ds_ret (de_ixV (i := 1) hu (de_callS h__law_next hr (by first | decide | omega | (simp only [Nat.add_eq, Nat.succ_eq_add_one]; omega)) px (by rfl) (da_cons (de_rd (i := 0)) (da_cons (de_len (by rfl) z_len (dp_var (i := 1))) da_nil)))))))
abbrev s_law : Stmt := topS 13
theorem sc_law : FnScope ["script", "draws", "turn", "parts", "k", "due"] ["script"] (defScope s_law) := ⟨rfl, rfl, rfl, by decide +kernel, rfl, by decide +kernel, by decide +kernel⟩
def g_law : Ex := (seqS (bndS (callS m__law_reader (consA (rd 0) nilA)) (setV 1)) (seqS (forS (bnd (consA (cst (.p (.int 30))) nilA) rng1) (nameG 2) (seqS (bndS (bnd (asPk (frz (lcF (bnd (consA (callS m__law_next (consA (rd 1) (consA (cst (.p (.int 4))) nilA))) nilA) rng1) [4] (nameG 4) yesT (callS m__law_part (consA (rd 1) nilA))))) (fnK tupP)) (setV 3)) (seqS (ifS (bnd (bnd2 (callS m__law_next (consA (rd 1) (consA (cst (.p (.int 2))) nilA))) (cst (.p (.int 0))) eqD) isBl) (bndS (bnd (consA (bnd2 (frz (bnd (consA (cst (.p (.str "first"))) (consA (cst (.p (.str "best"))) (consA (cst (.p (.str "next"))) (consA (cst (.p (.str "bump"))) nilA)))) mkLin)) (callS m__law_next (consA (rd 1) (consA (cst (.p (.int 4))) nilA))) ixD) (consA (callS m__law_part (consA (rd 1) nilA)) nilA)) mkTup) (setV 3)) skip) (seqS (bndS (andE (bnd2 (bnd (pk 3) (fnK lenP)) (cst (.p (.int 2))) eqD) (andE (bnd (asPk (ixV 3 (cst (.p (.int 0))))) (fnK (isiP .str))) (inE false (ixV 3 (cst (.p (.int 0)))) (asPk (frz (bnd (consA (cst (.p (.str "first"))) (consA (cst (.p (.str "best"))) (consA (cst (.p (.str "next"))) (consA (cst (.p (.str "bump"))) nilA)))) mkLin)))))) (setV 5)) (seqS (ifS (bnd (pk 5) truPR) (bndS (andE (bnd (asPk (ixV 3 (cst (.p (.int 1))))) (fnK (isiP .int))) (andE (notE (bnd (asPk (ixV 3 (cst (.p (.int 1))))) (fnK (isiP .bool)))) (inE false (ixV 3 (cst (.p (.int 1)))) (asPk (frz (bnd (consA (cst (.p (.int 1))) (consA (cst (.p (.int 2))) (consA (cst (.p (.int 4))) (consA (cst (.p (.int 8))) nilA)))) mkLin)))))) (setV 5)) skip) (ifS (orT (bnd (bnd2 (callP m_is_allocator (consA (rd 3) nilA)) (rd 5) neD) isBl) (bnd (bnd2 (callP m_is_allocator (consA (callS m__law_part (consA (rd 1) nilA)) nilA)) (cst (.p (.bl false))) isntD) isBl)) (bndS (cst (.p (.bl false))) retS) skip)))))) (bndS (cst (.p (.bl true))) retS)))
def m_law : Fn := runD 1 g_law 5
theorem ok_law_at (h__law_next : HasD P wd K mg base 1 "_law_next" ["draws", "many"] m__law_next) (h__law_part : HasD P wd K mg base 2 "_law_part" ["draws"] m__law_part) (h__law_reader : HasD P wd K mg base 2 "_law_reader" ["script"] m__law_reader) (h_is_allocator : HasD P wd K mg base 2 "is_allocator" ["thing"] m_is_allocator) (z_bool : mg "bool" = none) (z_int : mg "int" = none) (z_isinstance : mg "isinstance" = none) (z_len : mg "len" = none) (z_range : mg "range" = none) (z_str : mg "str" = none) (z_tuple : mg "tuple" = none) {fa : Addr} {fd : FuncData} (F : Fun K "law" "law" s_law fa fd) : FnOk P wd K mg base (L2.CX P wd) 3 fa fd ["script"] (spD K mg m_law) := fnB F sc_law rfl fun cdv A outer s0 H0 E G hr hu px po =>
    have nd := sc_law.nd
    (dss_cons (ds_set (i := 1) nd rfl (by first | exact Or.inl rfl | exact Or.inr rfl) (de_callS h__law_reader hr (by first | decide | omega | (simp only [Nat.add_eq, Nat.succ_eq_add_one]; omega)) px (by rfl) (da_cons (de_rd (i := 0)) da_nil))) (dss_cons (ds_for po rfl (di_rng1 (by rfl) z_range (da_cons de_int da_nil)) (dg_name (i := 2) nd rfl (by first | exact Or.inl rfl | exact Or.inr rfl)) (dss_cons (ds_set (i := 3) nd rfl (by first | exact Or.inl rfl | exact Or.inr rfl) (de_tupc (by rfl) z_tuple (dp_of (de_frz (df_lc (own := [("k", 4)]) rfl nd (di_rng1 (by rfl) z_range (da_cons (de_callS h__law_next hr (by first | decide | omega | (simp only [Nat.add_eq, Nat.succ_eq_add_one]; omega)) px (by rfl) (da_cons (de_rd (i := 1)) (da_cons de_int da_nil))) da_nil)) (blkOk_by (N := ["script", "draws", "turn", "parts", "k", "due"]) (sc := defScope s_law) (by decide +kernel)) (fun _ _ _ _ _ => (pg_name (i := 4) nd rfl (Or.inl rfl))) (raw_name (by decide)) (fun _ _ _ _ _ _ eG => dts_nil) (fun _ _ _ _ _ _ eG => (de_callS h__law_part hr (by first | decide | omega | (simp only [Nat.add_eq, Nat.succ_eq_add_one]; omega)) (by rw [eG]; exact passL) (by rfl) (da_cons (de_rd (i := 1)) da_nil)))))))) (dss_cons (ds_if (dt_eq hu (de_callS h__law_next hr (by first | decide | omega | (simp only [Nat.add_eq, Nat.succ_eq_add_one]; omega)) px (by rfl) (da_cons (de_rd (i := 1)) (da_cons de_int da_nil))) de_int) (dss_one (ds_set (i := 3) nd rfl (by first | exact Or.inl rfl | exact Or.inr rfl) (de_tup (da_cons (de_ix hu (de_frz (df_lst (da_cons de_str (da_cons de_str (da_cons de_str (da_cons de_str da_nil)))))) (de_callS h__law_next hr (by first | decide | omega | (simp only [Nat.add_eq, Nat.succ_eq_add_one]; omega)) px (by rfl) (da_cons (de_rd (i := 1)) (da_cons de_int da_nil)))) (da_cons (de_callS h__law_part hr (by first | decide | omega | (simp only [Nat.add_eq, Nat.succ_eq_add_one]; omega)) px (by rfl) (da_cons (de_rd (i := 1)) da_nil)) da_nil))))) dss_nil) (dss_cons (ds_set (i := 5) nd rfl (by first | exact Or.inl rfl | exact Or.inr rfl) (de_and (de_eq hu (de_len (by rfl) z_len (dp_var (i := 3))) de_int) (de_and (de_isi (T := .str) (by rfl) z_isinstance (by rfl) z_str (by decide +kernel) (dp_of (de_ixV (i := 3) hu de_int))) (de_one (de_inP hu (de_ixV (i := 3) hu de_int) (dp_of (de_frz (df_lst (da_cons de_str (da_cons de_str (da_cons de_str (da_cons de_str da_nil)))))))))))) (dss_cons (ds_if (dt_truP (dp_var (i := 5))) (dss_one (ds_set (i := 5) nd rfl (by first | exact Or.inl rfl | exact Or.inr rfl) (de_and (de_isi (T := .int) (by rfl) z_isinstance (by rfl) z_int (by decide +kernel) (dp_of (de_ixV (i := 3) hu de_int))) (de_and (de_not (de_isi (T := .bool) (by rfl) z_isinstance (by rfl) z_bool (by decide +kernel) (dp_of (de_ixV (i := 3) hu de_int)))) (de_one (de_inP hu (de_ixV (i := 3) hu de_int) (dp_of (de_frz (df_lst (da_cons de_int (da_cons de_int (da_cons de_int (da_cons de_int da_nil))))))))))))) dss_nil) (dss_one (ds_if (dt_w (dw_or (dt_ne hu (de_callP h_is_allocator hr (by first | decide | omega | (simp only [Nat.add_eq, Nat.succ_eq_add_one]; omega)) px (by rfl) (da_cons (de_rd (i := 3)) da_nil)) (de_rd (i := 5))) (dw_or1 (dt_isnt (de_callP h_is_allocator hr (by first | decide | omega | (simp only [Nat.add_eq, Nat.succ_eq_add_one]; omega)) px (by rfl) (da_cons (de_callS h__law_part hr (by first | decide | omega | (simp only [Nat.add_eq, Nat.succ_eq_add_one]; omega)) px (by rfl) (da_cons (de_rd (i := 1)) da_nil)) da_nil)) de_bl)))) (dss_one (ds_ret de_bl)) dss_nil))))))) (dss_one (ds_ret de_bl))))
end
end K20
namespace Pn
open PySem PySem.Spec PyProof.Rows L2 Dz
def g__law_draws : Ex := (seqS (bndS (bnd nilA mkLin) (setL 1)) (seqS (forS (bnd (consA (bnd (consA (bnd (pk 0) (fnK lenP)) (consA (cst (.p (.int 63))) nilA)) minD) nilA) rng1) (nameG 2) (seqS (bndS (bnd (asPk (ixV 0 (rd 2))) (fnK absP)) (setV 3)) (ifS (bnd (bnd2 (rd 3) (bnd2 (cst (.p (.int 10))) (cst (.p (.int 18))) powD) geD) isBl) (forS (bnd (consA (cst (.p (.int 20))) nilA) rng1) (nameG 4) (ifS (bnd (bnd2 (rd 3) (cst (.p (.int 0))) gtD) isBl) (seqS (appV 1 (bnd2 (rd 3) (cst (.p (.int 1000))) modD)) (bndS (bnd2 (rd 3) (cst (.p (.int 1000))) fdivD) (setV 3))) skip)) (seqS (bndS (bnd2 (bnd (asPk (bnd2 (bnd2 (bnd2 (ixV 0 (rd 2)) (cst (.p (.int 48271))) mulD) (bnd2 (rd 2) (cst (.p (.int 69621))) mulD) addD) (cst (.p (.int 12345))) addD)) (fnK intP)) (cst (.p (.int 2147483647))) modD) (setV 5)) (forS (bnd (consA (cst (.p (.int 3))) nilA) rng1) (nameG 4) (seqS (bndS (bnd2 (bnd (asPk (bnd2 (bnd2 (bnd2 (rd 5) (rd 5) mulD) (bnd2 (rd 4) (cst (.p (.int 7919))) mulD) addD) (cst (.p (.int 17))) addD)) (fnK intP)) (cst (.p (.int 2147483629))) modD) (setV 5)) (appV 1 (bnd2 (rd 5) (cst (.p (.int 1000))) modD)))))))) (bndS (rd 1) retS)))
def m__law_draws : Fn := runD 1 g__law_draws 5
def g__law_reader : Ex := (seqS (bndS (callP m__law_draws (consA (rd 0) nilA)) (setV 1)) (seqS (bndS (cst (.p (.int 5))) (setV 2)) (seqS (ifS (bnd (bnd2 (bnd (pk 0) (fnK lenP)) (cst (.p (.int 0))) gtD) isBl) (bndS (bnd2 (bnd (asPk (ixV 0 (bnd (cst (.p (.int 1))) negD))) (fnK absP)) (cst (.p (.int 1000003))) modD) (setV 2)) skip) (bndS (dispS ((.inr "row", (rd 1)) :: ((.inr "at", (cst (.p (.int 0)))) :: ((.inr "seed", (rd 2)) :: [])))) retS))))
def m__law_reader : Fn := runD 1 g__law_reader 2
def g__law_next : Ex := (seqS (bndS (ixV 0 (cst (.p (.str "at")))) (setV 2)) (seqS (putV 0 (cst (.p (.str "at"))) (bnd2 (rd 2) (cst (.p (.int 1))) addD)) (seqS (ifS (bnd (bnd2 (rd 2) (bnd (asPk (ixV 0 (cst (.p (.str "row"))))) (fnK lenP)) ltD) isBl) (bndS (bnd2 (bnd (asPk (bnd2 (ixV 0 (cst (.p (.str "row")))) (rd 2) ixD)) (fnK intP)) (rd 1) modD) retS) skip) (seqS (bndS (bnd2 (bnd (asPk (bnd2 (bnd2 (bnd2 (ixV 0 (cst (.p (.str "seed")))) (bnd2 (cst (.p (.int 17))) (rd 2) mulD) addD) (cst (.p (.int 3))) addD) (cst (.p (.int 48271))) mulD)) (fnK intP)) (cst (.p (.int 2147483647))) modD) (setV 3)) (bndS (bnd2 (bnd2 (bnd2 (bnd (asPk (bnd2 (bnd2 (rd 3) (rd 3) mulD) (rd 2) addD)) (fnK intP)) (cst (.p (.int 2147483629))) modD) (cst (.p (.int 7))) fdivD) (rd 1) modD) retS)))))
def m__law_next : Fn := runD 2 g__law_next 2
/-! ### the draws of the laws of stages 4 and 5 -/
def drw (xs : List Int) (a s : Int) : MO := .dic [(.inr "row", .p (.lst (xs.map .int))), (.inr "at", .p (.int a)), (.inr "seed", .p (.int s))]
section
variable {xs : List Int} {a sd many : Int} {R : List MO} {sl : List Sl}
theorem ix_at : ixO (.loc 0) (.p (.str "at")) ⟨sl, some (drw xs a sd :: R)⟩ = some (.p (.int a)) := rfl
theorem ix_row : ixO (.loc 0) (.p (.str "row")) ⟨sl, some (drw xs a sd :: R)⟩ = some (.p (.lst (xs.map .int))) := rfl
theorem ix_seed : ixO (.loc 0) (.p (.str "seed")) ⟨sl, some (drw xs a sd :: R)⟩ = some (.p (.int sd)) := rfl
theorem put_at {b : Int} {i : Nat} : putAt (.d (.loc 0)) i (.p (.str "at")) (.p (.int b)) ⟨sl, some (drw xs a sd :: R)⟩ = some ⟨sl, some (drw xs b sd :: R)⟩ := rfl
theorem fmod_pos (x : Int) {m : Int} (h : 0 < m) : 0 ≤ x.fmod m ∧ x.fmod m < m := ⟨Int.fmod_nonneg_of_pos x h, Int.fmod_lt_of_pos x h⟩
theorem cMul_l {i j : Int} (h1 : -(2 ^ 64) < i) (h2 : i < 2 ^ 64) : cMul i j = true := by unfold cMul; simp only [decide_eq_true h1, decide_eq_true h2, Bool.and_self, Bool.true_or]
theorem cMul_r {i j : Int} (h1 : -(2 ^ 64) < j) (h2 : j < 2 ^ 64) : cMul i j = true := by unfold cMul; simp only [decide_eq_true h1, decide_eq_true h2, Bool.and_self, Bool.or_true]
theorem next_ok (h0 : 0 ≤ a) (hm : 0 < many) : ∃ v, 0 ≤ v ∧ v < many ∧ ∃ sl, m__law_next [.loc 0, .p (.int many)] (some (drw xs a sd :: R)) = .ok (.p (.int v)) ⟨sl, some (drw xs (a + 1) sd :: R)⟩ := by
  have key : ∃ v, 0 ≤ v ∧ v < many ∧ ∃ sl, g__law_next ⟨[.v (.loc 0), .v (.p (.int many)), .un, .un], some (drw xs a sd :: R)⟩ = .ret (.p (.int v)) ⟨sl, some (drw xs (a + 1) sd :: R)⟩ := by
    unfold g__law_next
    rw [seqS_nx (s1 := ⟨[.v (.loc 0), .v (.p (.int many)), .v (.p (.int a)), .un], some (drw xs a sd :: R)⟩) (es_set (ed_ixV rfl ed_cst ix_at))]
    rw [seqS_nx (f := putV 0 (cst (.p (.str "at"))) (bnd2 (rd 2) (cst (.p (.int 1))) addD)) (s1 := ⟨[.v (.loc 0), .v (.p (.int many)), .v (.p (.int a)), .un], some (drw xs (a + 1) sd :: R)⟩) rfl]
    have hseq : ∀ sl, seqOf (.p (.lst (xs.map P.int))) ⟨sl, some (drw xs (a + 1) sd :: R)⟩ = some ((xs.map P.int).map D.p) := fun _ => rfl
    have htest : EvT (bnd (bnd2 (rd 2) (bnd (asPk (ixV 0 (cst (.p (.str "row"))))) (fnK lenP)) ltD) isBl) ⟨[.v (.loc 0), .v (.p (.int many)), .v (.p (.int a)), .un], some (drw xs (a + 1) sd :: R)⟩ (decide (a < (((xs.map P.int).map D.p).length : Nat))) :=
      et_b (eb_lt (ed_rd rfl) (ed_len (ep_as (ed_ixV rfl ed_cst ix_row)) (hseq _)))
    by_cases hl : a < xs.length
    · obtain ⟨n, rfl⟩ : ∃ n : Nat, a = n := ⟨a.toNat, by omega⟩
      have hn : n < xs.length := by omega
      refine ⟨(xs[n]).fmod many, (fmod_pos _ hm).1, (fmod_pos _ hm).2, [.v (.loc 0), .v (.p (.int many)), .v (.p (.int n)), .un], ?_⟩
      rw [decide_eq_true (by simpa using hn)] at htest
      apply seqS_ret
      rw [es_ifT htest]
      apply es_ret
      refine ed_mod (ed_int (ep_as (ed_ix (ed_ixV rfl ed_cst ix_row) (ed_rd rfl) ?_))) (ed_rd rfl) (by omega)
      show atI ((xs.map P.int).map D.p) n = _
      unfold atI ixN
      rw [if_pos (by omega), if_pos (by simp; omega)]
      simp [hn]
    · rw [decide_eq_false (by simpa using hl)] at htest
      refine ⟨((((((sd + 17 * a + 3) * 48271).fmod 2147483647) * (((sd + 17 * a + 3) * 48271).fmod 2147483647) + a).fmod 2147483629).fdiv 7).fmod many, (fmod_pos _ hm).1, (fmod_pos _ hm).2, [.v (.loc 0), .v (.p (.int many)), .v (.p (.int a)), .v (.p (.int (((sd + 17 * a + 3) * 48271).fmod 2147483647)))], ?_⟩
      have hb := fmod_pos ((sd + 17 * a + 3) * 48271) (m := 2147483647) (by decide)
      rw [seqS_nx (s1 := ⟨[.v (.loc 0), .v (.p (.int many)), .v (.p (.int a)), .un], some (drw xs (a + 1) sd :: R)⟩) (by rw [es_ifF htest]; rfl)]
      rw [seqS_nx (es_set (ed_mod (ed_int (ep_as (ed_mul (ed_add (ed_add (ed_ixV rfl ed_cst ix_seed) (ed_mul ed_cst (ed_rd rfl) (cMul_l (by decide) (by decide)))) ed_cst) ed_cst (cMul_r (by decide) (by decide))))) ed_cst (by decide)))]
      exact es_ret (ed_mod (ed_fdiv (ed_mod (ed_int (ep_as (ed_add (ed_mul (ed_rd rfl) (ed_rd rfl) (cMul_l (by omega) (by omega))) (ed_rd rfl)))) ed_cst (by decide)) ed_cst (by decide)) (ed_rd rfl) (by omega))
  obtain ⟨v, h1, h2, sl, e⟩ := key
  exact ⟨v, h1, h2, sl, runD_ret rfl e⟩
/-! the row of draws -/
theorem abs_nn (x : Int) : 0 ≤ (if x < 0 then -x else x) := by split <;> omega
theorem fz_ix {ns : List Int} {k : Nat} {s : Sta} (h : k < ns.length) : ixO (.fz (ns.map .int)) (.p (.int k)) s = some (.p (.int ns[k])) := by
  show atI ((ns.map P.int).map D.p) k = _
  unfold atI ixN
  rw [if_pos (by omega), if_pos (by simp; omega)]
  simp [h]
/-- the state of _law_draws: at most m draws -/
def DrI (ns : List Int) (m : Nat) (s : Sta) : Prop := ∃ (xs : List Int) (a b c d : Sl), s = ⟨[.v (.fz (ns.map .int)), .lin (.lst (xs.map .int)), a, b, c, d], some []⟩ ∧ xs.length ≤ m
theorem draws_ok (ns : List Int) : ∃ d s, m__law_draws [.fz (ns.map .int)] (some []) = .ok d s ∧ ∃ xs : List Int, d = .p (.lst (xs.map .int)) := by
  refine run_wp (R := fun d _ => ∃ xs : List Int, d = .p (.lst (xs.map .int))) rfl ?_
  show Wp (g__law_draws ⟨[.v (.fz (ns.map .int)), .un, .un, .un, .un, .un], some []⟩) _
  unfold g__law_draws
  refine wp_seq (wp_bnd (a := .lst []) rfl ?_)
  show Wp (seqS _ _ ⟨[.v (.fz (ns.map .int)), .lin (.lst []), .un, .un, .un, .un], some []⟩) _
  have hmany : ∃ many : Nat, (if (63 : Int) < ns.length then (63 : Int) else ns.length) = many ∧ many ≤ 63 ∧ many ≤ ns.length := by
    by_cases h : (63 : Int) < ns.length
    · exact ⟨63, by rw [if_pos h]; rfl, by omega, by omega⟩
    · exact ⟨ns.length, by rw [if_neg h], by omega, by omega⟩
  obtain ⟨many, hmany, hm1, hm2⟩ := hmany
  refine wp_seq (wp_rng (j := many) (s1 := ⟨[.v (.fz (ns.map .int)), .lin (.lst []), .un, .un, .un, .un], some []⟩) (fun k s => DrI ns (20 * k) s) (ea_cons ?_ ea_nil) (by omega) ⟨[], _, _, _, _, rfl, by simp⟩ (fun k s hk hs => ?_) fun s hs => ?_)
  · unfold EvD
    rw [bnd_ok (ea_cons (ed_len (d := .fz (ns.map .int)) (ds := (ns.map P.int).map D.p) (ep_pk rfl) rfl) (ea_cons ed_cst ea_nil))]
    show Res.ok (D.p (.int (if (63 : Int) < ((ns.map P.int).map D.p).length then 63 else ((ns.map P.int).map D.p).length))) _ = _
    rw [show ((ns.map P.int).map D.p).length = ns.length by simp, hmany]
  · obtain ⟨xs, a, b, c, d, rfl, hx⟩ := hs
    show Wp (seqS _ _ ⟨[.v (.fz (ns.map .int)), .lin (.lst (xs.map .int)), .v (.p (.int k)), b, c, d], some []⟩) _
    have hkn : k < ns.length := by omega
    have eix : ∀ b c d, EvI (ixV 0 (rd 2)) ⟨[.v (.fz (ns.map .int)), .lin (.lst (xs.map .int)), .v (.p (.int k)), b, c, d], some []⟩ ns[k] := fun b c d => ed_ixV rfl (ed_rd rfl) (fz_ix hkn)
    have hcn := abs_nn ns[k]
    refine wp_seq (wp_set (ed_abs (ep_as (eix b c d))) ?_)
    generalize (if ns[k] < 0 then -ns[k] else ns[k]) = cell at hcn
    show Wp (ifS _ _ _ ⟨[.v (.fz (ns.map .int)), .lin (.lst (xs.map .int)), .v (.p (.int k)), .v (.p (.int cell)), c, d], some []⟩) _
    refine wp_if (et_b (eb_ge (ed_rd rfl) (ed_pow ed_cst ed_cst (by decide)))) (fun _ => ?_) fun _ => ?_
    · refine wp_rng (j := 20) (s1 := ⟨[.v (.fz (ns.map .int)), .lin (.lst (xs.map .int)), .v (.p (.int k)), .v (.p (.int cell)), c, d], some []⟩) (fun j s => ∃ (xs : List Int) (cell : Int) (c d : Sl), s = ⟨[.v (.fz (ns.map .int)), .lin (.lst (xs.map .int)), .v (.p (.int k)), .v (.p (.int cell)), c, d], some []⟩ ∧ xs.length ≤ 20 * k + j) rfl (by decide) ⟨xs, cell, c, d, rfl, by omega⟩ (fun j s hj hs => ?_) fun s hs => ?_
      · obtain ⟨xs, cell, c, d, rfl, hx⟩ := hs
        have hl : (xs.map P.int).length < sizeLine := by
          rw [List.length_map]
          have : sizeLine = 16777216 := rfl
          omega
        show Wp (ifS _ _ _ ⟨[.v (.fz (ns.map .int)), .lin (.lst (xs.map .int)), .v (.p (.int k)), .v (.p (.int cell)), .v (.p (.int j)), d], some []⟩) _
        refine wp_if (et_b (eb_gt (ed_rd rfl) ed_cst)) (fun _ => ?_) fun _ => ⟨xs, _, _, _, rfl, by omega⟩
        refine wp_seq (wp_app rfl (ed_mod (ed_rd rfl) ed_cst (by decide)) hl ?_)
        dsimp only
        refine wp_set (ed_fdiv (ed_rd rfl) ed_cst (by decide)) ?_
        refine ⟨xs ++ [cell.fmod 1000], cell.fdiv 1000, .v (.p (.int j)), d, ?_, by rw [List.length_append, List.length_singleton]; omega⟩
        rw [List.map_append]
        rfl
      · obtain ⟨xs, cell, c, d, rfl, hx⟩ := hs
        exact ⟨xs, _, _, _, _, rfl, by omega⟩
    · have hb0 := fmod_pos (ns[k] * 48271 + k * 69621 + 12345) (m := 2147483647) (by decide)
      refine wp_seq (wp_set (ed_mod (ed_int (ep_as (ed_add (ed_add (ed_mul (eix (.v (.p (.int cell))) c d) ed_cst (cMul_r (by decide) (by decide))) (ed_mul (i := k) (ed_rd rfl) ed_cst (cMul_r (by decide) (by decide)))) ed_cst))) ed_cst (by decide)) ?_)
      generalize (ns[k] * 48271 + k * 69621 + 12345 : Int).fmod 2147483647 = m0 at hb0
      refine wp_rng (j := 3) (s1 := ⟨[.v (.fz (ns.map .int)), .lin (.lst (xs.map .int)), .v (.p (.int k)), .v (.p (.int cell)), c, .v (.p (.int m0))], some []⟩) (fun j s => ∃ (xs : List Int) (cell m0 : Int) (c : Sl), s = ⟨[.v (.fz (ns.map .int)), .lin (.lst (xs.map .int)), .v (.p (.int k)), .v (.p (.int cell)), c, .v (.p (.int m0))], some []⟩ ∧ xs.length ≤ 20 * k + j ∧ 0 ≤ m0 ∧ m0 < 2147483647) rfl (by decide) ⟨xs, cell, m0, c, rfl, by omega, hb0.1, hb0.2⟩ (fun j s hj hs => ?_) fun s hs => ?_
      · obtain ⟨xs, cell, m0, c, rfl, hx, hm1, hm2⟩ := hs
        have hl : (xs.map P.int).length < sizeLine := by
          rw [List.length_map]
          have : sizeLine = 16777216 := rfl
          omega
        have hb := fmod_pos (m0 * m0 + j * 7919 + 17) (m := 2147483629) (by decide)
        show Wp (seqS _ _ ⟨[.v (.fz (ns.map .int)), .lin (.lst (xs.map .int)), .v (.p (.int k)), .v (.p (.int cell)), .v (.p (.int j)), .v (.p (.int m0))], some []⟩) _
        refine wp_seq (wp_set (ed_mod (ed_int (ep_as (ed_add (ed_add (ed_mul (i := m0) (j := m0) (ed_rd rfl) (ed_rd rfl) (cMul_l (by omega) (by omega))) (ed_mul (i := j) (ed_rd rfl) ed_cst (cMul_r (by decide) (by decide)))) ed_cst))) ed_cst (by decide)) ?_)
        generalize (m0 * m0 + j * 7919 + 17 : Int).fmod 2147483629 = m1 at hb
        refine wp_app rfl (ed_mod (ed_rd rfl) ed_cst (by decide)) hl ⟨xs ++ [m1.fmod 1000], cell, m1, .v (.p (.int j)), ?_, by rw [List.length_append, List.length_singleton]; omega, hb.1, by omega⟩
        rw [List.map_append]
        rfl
      · obtain ⟨xs, cell, m0, c, rfl, hx, _⟩ := hs
        exact ⟨xs, _, _, _, _, rfl, by omega⟩
  · obtain ⟨xs, a, b, c, d, rfl, hx⟩ := hs
    exact ⟨xs, rfl⟩
theorem reader_ok (ns : List Int) : ∃ d s, m__law_reader [.fz (ns.map .int)] (some []) = .ok d s ∧ d = .loc 0 ∧ ∃ xs sd, s.st = some [drw xs 0 sd] := by
  obtain ⟨_, s3, e3, xs, rfl⟩ := draws_ok ns
  refine run_wp (R := fun d s => d = .loc 0 ∧ ∃ xs sd, s.st = some [drw xs 0 sd]) rfl ?_
  show Wp (g__law_reader ⟨[.v (.fz (ns.map .int)), .un, .un], some []⟩) _
  unfold g__law_reader
  refine wp_seq (wp_set (ed_callP (ea_cons (ed_rd rfl) ea_nil) rfl e3) ?_)
  refine wp_seq (wp_set ed_cst ?_)
  show Wp (seqS _ _ ⟨[.v (.fz (ns.map .int)), .v (.p (.lst (xs.map .int))), .v (.p (.int 5))], some []⟩) _
  have fin : ∀ sd : Int, Wp (bndS (dispS ((.inr "row", (rd 1)) :: ((.inr "at", (cst (.p (.int 0)))) :: ((.inr "seed", (rd 2)) :: [])))) retS ⟨[.v (.fz (ns.map .int)), .v (.p (.lst (xs.map .int))), .v (.p (.int sd))], some []⟩) (RetO fun d s => d = .loc 0 ∧ ∃ xs sd, s.st = some [drw xs 0 sd]) := fun sd => ⟨rfl, xs, sd, rfl⟩
  refine wp_seq (wp_if (et_b (eb_gt (ed_len (d := .fz (ns.map .int)) (ds := (ns.map P.int).map D.p) (ep_pk rfl) rfl) ed_cst)) (fun hl => ?_) fun _ => fin 5)
  have hl : 0 < ns.length := by have := of_decide_eq_true hl; simpa using this
  have hix : ∀ s, ixO (.fz (ns.map .int)) (.p (.int (-1))) s = some (.p (.int ns[ns.length - 1])) := fun s => by
    show atI ((ns.map P.int).map D.p) (-1) = _
    unfold atI ixN
    rw [if_neg (by decide), if_pos (by simp; omega)]
    simp only [List.length_map]
    rw [show ((-1 : Int) + (ns.length : Nat)).toNat = ns.length - 1 by omega]
    show ((ns.map P.int).map D.p)[ns.length - 1]? = _
    rw [List.getElem?_map, List.getElem?_map, List.getElem?_eq_getElem (by omega)]
    rfl
  exact wp_set (ed_mod (ed_abs (ep_as (ed_ixV rfl (ed_neg (i := 1) ed_cst) (hix _)))) ed_cst (by decide)) (fin _)
end
end Pn
namespace K20
open PySem PySem.Spec PyProof.Rows L2 Dz Pn
section
variable {xs : List Int} {a sd many : Int} {R : List MO} {sl : List Sl} {st : Option (List MO)}
def parts18 : List P := [.str "first", .str "best", .str "next", .str "bump", .str "worst", .str "", .int 1, .int 2, .int 4, .int 8, .int 0, .int 3, .int 16, .bl true, .bl false, .non, .tup [], .tup [.str "first"]]
def pol : List P := [.str "first", .str "best", .str "next", .str "bump"]
def uni : List P := [.int 1, .int 2, .int 4, .int 8]
/-- a call of next -/
theorem nx_call {g : Ev} (hg : ∀ st, g ⟨sl, st⟩ = .ok (.loc 0) ⟨sl, st⟩) {gm : Ev} (hm : ∀ st, gm ⟨sl, st⟩ = .ok (.p (.int many)) ⟨sl, st⟩) (h0 : 0 ≤ a) (hp : 0 < many) : ∃ v, 0 ≤ v ∧ v < many ∧ callS m__law_next (consA g (consA gm nilA)) ⟨sl, some (drw xs a sd :: R)⟩ = .ok (.p (.int v)) ⟨sl, some (drw xs (a + 1) sd :: R)⟩ := by
  obtain ⟨v, h1, h2, sl', e⟩ := next_ok (xs := xs) (sd := sd) (R := R) h0 hp
  exact ⟨v, h1, h2, callS_ok (s1 := ⟨sl, some (drw xs a sd :: R)⟩) (s3 := ⟨sl', some (drw xs (a + 1) sd :: R)⟩) (consA_ok (hg _) (consA_ok (hm _) rfl)) e⟩
theorem part_ok (h0 : 0 ≤ a) : ∃ x ∈ parts18, ∃ sl, m__law_part [.loc 0] (some (drw xs a sd :: R)) = .ok (.p x) ⟨sl, some (drw xs (a + 1) sd :: R)⟩ := by
  have key : ∃ x ∈ parts18, ∃ sl, g__law_part ⟨[.v (.loc 0), .un], some (drw xs a sd :: R)⟩ = .ret (.p x) ⟨sl, some (drw xs (a + 1) sd :: R)⟩ := by
    unfold g__law_part
    rw [seqS_nx (f := bndS _ (setV 1)) (s1 := ⟨[.v (.loc 0), .v (.p (.lst parts18))], some (drw xs a sd :: R)⟩) (by rfl)]
    obtain ⟨v, h1, h2, e⟩ := nx_call (sl := [.v (.loc 0), .v (.p (.lst parts18))]) (g := rd 0) (gm := bnd (pk 1) (fnK lenP)) (many := 18) (xs := xs) (sd := sd) (R := R) (fun st => rd_v rfl) (fun st => by rw [bnd_ok (pk_v rfl)]; rfl) h0 (by decide)
    obtain ⟨n, rfl⟩ : ∃ n : Nat, v = n := ⟨v.toNat, by omega⟩
    have hn : n < parts18.length := by show n < 18; omega
    refine ⟨parts18[n], List.getElem_mem hn, [.v (.loc 0), .v (.p (.lst parts18))], ?_⟩
    rw [bndS_ok (ixV_st rfl e rfl (x := .p parts18[n]) ?_)]
    · rfl
    · show atI (parts18.map D.p) n = _
      unfold atI ixN
      rw [if_pos (by omega), if_pos (by rw [List.length_map]; omega)]
      show (parts18.map D.p)[((n : Nat) : Int).toNat]? = _
      rw [Int.toNat_natCast, List.getElem?_map, List.getElem?_eq_getElem hn]
      rfl
  obtain ⟨x, hx, sl, e⟩ := key
  exact ⟨x, hx, sl, runD_ret rfl e⟩
theorem part_call {g : Ev} (hg : ∀ st, g ⟨sl, st⟩ = .ok (.loc 0) ⟨sl, st⟩) (h0 : 0 ≤ a) : ∃ x ∈ parts18, callS m__law_part (consA g nilA) ⟨sl, some (drw xs a sd :: R)⟩ = .ok (.p x) ⟨sl, some (drw xs (a + 1) sd :: R)⟩ := by
  obtain ⟨x, hx, sl', e⟩ := part_ok (xs := xs) (sd := sd) (R := R) h0
  exact ⟨x, hx, callS_ok (s1 := ⟨sl, some (drw xs a sd :: R)⟩) (s3 := ⟨sl', some (drw xs (a + 1) sd :: R)⟩) (consA_ok (hg _) rfl) e⟩
/-! what is_allocator tells -/
def resB : Res D → Option Bool
  | .ok (.p (.bl b)) _ => some b
  | _ => none
theorem resB_some {r : Res D} {b : Bool} (h : resB r = some b) : ∃ s, r = .ok (.p (.bl b)) s := by
  unfold resB at h
  split at h
  · cases h; exact ⟨_, rfl⟩
  · cases h
def due1 (x : P) : Bool := isiB x .str && pol.any fun z => eqP z x
def due2 (y : P) : Bool := isiB y .int && (!isiB y .bool && uni.any fun z => eqP z y)
def due : List P → Bool
  | [x, y] => due1 x && due2 y
  | _ => false
theorem al_one : ∀ x ∈ parts18, resB (m_is_allocator [.p x] (some [])) = some false := by decide +kernel
theorem al_two : ∀ x ∈ parts18, ∀ y ∈ parts18, resB (m_is_allocator [.p (.tup [x, y])] (some [])) = some (due1 x && due2 y) := by decide +kernel
theorem al_ok {ps : List P} (hp : ∀ x ∈ ps, x ∈ parts18) (hl : ps.length ≤ 3) : ∃ s, m_is_allocator [.p (.tup ps)] (some []) = .ok (.p (.bl (due ps))) s := by
  match ps, hp, hl with
  | [], _, _ => exact ⟨_, rfl⟩
  | [x], _, _ => exact ⟨_, rfl⟩
  | [x, y], hp, _ => exact resB_some (al_two x (hp x (by simp)) y (hp y (by simp)))
  | [x, y, z], _, _ => exact ⟨_, rfl⟩
/-! the law -/
def LI (ns xs : List Int) (sd : Int) (s : Sta) : Prop := ∃ (a : Int) (t p k u : Sl), 0 ≤ a ∧ s = ⟨[.v (.fz (ns.map .int)), .v (.loc 0), t, p, k, u], some [drw xs a sd]⟩
theorem isB_str : ∀ x ∈ parts18, min (deep x) (deepL pol) ≤ 60 := by decide
theorem isB_int : ∀ x ∈ parts18, min (deep x) (deepL uni) ≤ 60 := by decide
theorem pol_parts : ∀ x ∈ pol, x ∈ parts18 := fun x h => by simp [pol] at h; simp [parts18]; rcases h with rfl | rfl | rfl | rfl <;> simp
theorem law_true (ns : List Int) (_ : ns.length ≤ 63) : ∃ s, m_law [.fz (ns.map .int)] (some []) = .ok (.p (.bl true)) s := by
  suffices h : ∃ d s, m_law [.fz (ns.map .int)] (some []) = .ok d s ∧ d = .p (.bl true) by
    obtain ⟨d, s, e, rfl⟩ := h; exact ⟨s, e⟩
  refine run_wp (R := fun d _ => d = .p (.bl true)) rfl ?_
  show Wp (g_law ⟨[.v (.fz (ns.map .int)), .un, .un, .un, .un, .un], some []⟩) _
  unfold g_law
  obtain ⟨_, s0, e0, rfl, xs, sd, es0⟩ := reader_ok ns
  refine wp_seq (wp_bnd (a := .loc 0) (s1 := ⟨[.v (.fz (ns.map .int)), .un, .un, .un, .un, .un], some [drw xs 0 sd]⟩) (by
    rw [callS_ok (m := m__law_reader) (fa := consA (rd 0) nilA) (s1 := ⟨[.v (.fz (ns.map .int)), .un, .un, .un, .un, .un], some []⟩) (consA_ok (rd_v rfl) ea_nil) e0, es0]) ?_)
  show Wp (seqS _ _ ⟨[.v (.fz (ns.map .int)), .v (.loc 0), .un, .un, .un, .un], some [drw xs 0 sd]⟩) _
  refine wp_seq (wp_rng (j := 30) (fun _ s => LI ns xs sd s) (ea_cons ed_cst ea_nil) (by decide) ⟨0, _, _, _, _, by decide, rfl⟩ (fun k s hk hs => ?_) fun s _ => rfl)
  obtain ⟨a, t, p, kk, u, h0, rfl⟩ := hs
  generalize hT : (Sl.v (.p (.int (k : Nat)))) = T
  show Wp (seqS _ _ ⟨[.v (.fz (ns.map .int)), .v (.loc 0), T, p, kk, u], some [drw xs a sd]⟩) _
  -- the parts
  obtain ⟨v, hv1, hv2, ev⟩ := nx_call (sl := [.v (.fz (ns.map .int)), .v (.loc 0), T, p, kk, u]) (g := rd 1) (gm := cst (.p (.int 4))) (many := 4) (xs := xs) (sd := sd) (R := []) (fun st => rd_v rfl) (fun st => rfl) h0 (by decide)
  obtain ⟨ps0, st', e1, hl, hp0, a1, ha1, rfl⟩ := lcF_inv (own := [4]) (t := nameG 4) (fe := callS m__law_part (consA (rd 1) nilA)) (fun st => ∃ a : Int, 0 ≤ a ∧ st = some [drw xs a sd]) (fun x => x ∈ parts18)
    (s := ⟨[.v (.fz (ns.map .int)), .v (.loc 0), T, p, kk, u], some [drw xs a sd]⟩) (fi := bnd (consA (callS m__law_next (consA (rd 1) (consA (cst (.p (.int 4))) nilA))) nilA) rng1) (ds := rngL 0 v.toNat) (s1 := ⟨[.v (.fz (ns.map .int)), .v (.loc 0), T, p, kk, u], some [drw xs (a + 1) sd]⟩) (by
      rw [bnd_ok (consA_ok ev ea_nil)]
      unfold rng1
      simp only
      rw [if_pos ⟨by omega, by omega⟩])
    (fun d st hd hi => by
      obtain ⟨a, ha, rfl⟩ := hi
      obtain ⟨x, hx, e⟩ := part_call (sl := (inSl [4] [.v (.fz (ns.map .int)), .v (.loc 0), T, p, kk, u]).set 4 (.v d)) (g := rd 1) (xs := xs) (sd := sd) (R := []) (fun st => rd_v (by cases T <;> cases p <;> cases kk <;> cases u <;> rfl)) ha
      exact ⟨_, x, _, rfl, e, hx, a + 1, by omega, rfl⟩) (by rw [rngL_len]; show v.toNat ≤ 16777216; omega) ⟨a + 1, by omega, rfl⟩
  rw [rngL_len] at hl
  have hl0 : ps0.length ≤ 3 := by omega
  clear hl ev
  refine wp_seq (wp_bnd (a := .p (.tup ps0)) (s1 := ⟨[.v (.fz (ns.map .int)), .v (.loc 0), T, p, kk, u], some [drw xs a1 sd]⟩) (by
    unfold asPk frz
    rw [bnd_ok (by rw [bnd_ok (by rw [bnd_ok e1])])]
    rfl) ?_)
  clear e1
  show Wp (seqS _ _ ⟨[.v (.fz (ns.map .int)), .v (.loc 0), T, .v (.p (.tup ps0)), kk, u], some [drw xs a1 sd]⟩) _
  -- what comes behind
  have rest : ∀ (Q : Po), (∀ s, LI ns xs sd s → Q.nx s) → ∀ (ps : List P) (a2 : Int), 0 ≤ a2 → (∀ x ∈ ps, x ∈ parts18) → ps.length ≤ 3 → Wp ((seqS (bndS (andE (bnd2 (bnd (pk 3) (fnK lenP)) (cst (.p (.int 2))) eqD) (andE (bnd (asPk (ixV 3 (cst (.p (.int 0))))) (fnK (isiP .str))) (inE false (ixV 3 (cst (.p (.int 0)))) (asPk (frz (bnd (consA (cst (.p (.str "first"))) (consA (cst (.p (.str "best"))) (consA (cst (.p (.str "next"))) (consA (cst (.p (.str "bump"))) nilA)))) mkLin)))))) (setV 5)) (seqS (ifS (bnd (pk 5) truPR) (bndS (andE (bnd (asPk (ixV 3 (cst (.p (.int 1))))) (fnK (isiP .int))) (andE (notE (bnd (asPk (ixV 3 (cst (.p (.int 1))))) (fnK (isiP .bool)))) (inE false (ixV 3 (cst (.p (.int 1)))) (asPk (frz (bnd (consA (cst (.p (.int 1))) (consA (cst (.p (.int 2))) (consA (cst (.p (.int 4))) (consA (cst (.p (.int 8))) nilA)))) mkLin)))))) (setV 5)) skip) (ifS (orT (bnd (bnd2 (callP m_is_allocator (consA (rd 3) nilA)) (rd 5) neD) isBl) (bnd (bnd2 (callP m_is_allocator (consA (callS m__law_part (consA (rd 1) nilA)) nilA)) (cst (.p (.bl false))) isntD) isBl)) (bndS (cst (.p (.bl false))) retS) skip)))
      ⟨[.v (.fz (ns.map .int)), .v (.loc 0), T, .v (.p (.tup ps)), kk, u], some [drw xs a2 sd]⟩) Q := fun Q hQ ps a2 ha2 hp hl => by
    have last : Wp ((ifS (orT (bnd (bnd2 (callP m_is_allocator (consA (rd 3) nilA)) (rd 5) neD) isBl) (bnd (bnd2 (callP m_is_allocator (consA (callS m__law_part (consA (rd 1) nilA)) nilA)) (cst (.p (.bl false))) isntD) isBl)) (bndS (cst (.p (.bl false))) retS) skip)
        ⟨[.v (.fz (ns.map .int)), .v (.loc 0), T, .v (.p (.tup ps)), kk, .v (.p (.bl (due ps)))], some [drw xs a2 sd]⟩) Q := by
      obtain ⟨s3, e3⟩ := al_ok hp hl
      have t1 : EvT (bnd (bnd2 (callP m_is_allocator (consA (rd 3) nilA)) (rd 5) neD) isBl) ⟨[.v (.fz (ns.map .int)), .v (.loc 0), T, .v (.p (.tup ps)), kk, .v (.p (.bl (due ps)))], some [drw xs a2 sd]⟩ false := by
        have := et_b (eb_ne (f := callP m_is_allocator (consA (rd 3) nilA)) (g := rd 5) (s := ⟨[.v (.fz (ns.map .int)), .v (.loc 0), T, .v (.p (.tup ps)), kk, .v (.p (.bl (due ps)))], some [drw xs a2 sd]⟩) (ed_callP (ea_cons (ed_rd rfl) ea_nil) rfl e3) (ed_rd rfl) (by show (0 : Nat) ≤ 60; decide))
        rw [eqP_refl] at this
        exact this
      obtain ⟨x, hx, ex⟩ := part_call (sl := [.v (.fz (ns.map .int)), .v (.loc 0), T, .v (.p (.tup ps)), kk, .v (.p (.bl (due ps)))]) (g := rd 1) (a := a2) (xs := xs) (sd := sd) (R := []) (fun st => rd_v rfl) ha2
      obtain ⟨s4, e4⟩ := resB_some (al_one x hx)
      refine wp_if (b := false) (s1 := ⟨[.v (.fz (ns.map .int)), .v (.loc 0), T, .v (.p (.tup ps)), kk, .v (.p (.bl (due ps)))], some [drw xs (a2 + 1) sd]⟩) ?_ (fun h => by cases h) fun _ => wp_skip (hQ _ ⟨a2 + 1, _, _, _, _, by omega, rfl⟩)
      unfold orT
      rw [bnd_ok t1, if_neg (by decide)]
      rw [bnd_ok (bnd2_ok (callP_ok (consA_ok ex ea_nil) rfl e4 rfl) ed_cst)]
      rfl
    have hlen : EvB (bnd2 (bnd (pk 3) (fnK lenP)) (cst (.p (.int 2))) eqD) ⟨[.v (.fz (ns.map .int)), .v (.loc 0), T, .v (.p (.tup ps)), kk, u], some [drw xs a2 sd]⟩ (eqP (.int ps.length) (.int 2)) := by
      refine eb_eq ?_ ed_cst (by show (0 : Nat) ≤ 60; decide)
      have := ed_len (s := ⟨[.v (.fz (ns.map .int)), .v (.loc 0), T, .v (.p (.tup ps)), kk, u], some [drw xs a2 sd]⟩) (fp := pk 3) (d := .p (.tup ps)) (ds := ps.map .p) (ep_pk rfl) rfl
      rw [List.length_map] at this
      exact this
    by_cases h2 : ps.length = 2
    · match ps, h2, hp with
      | [x, y], _, hp =>
        have hx := hp x (by simp)
        have hy := hp y (by simp)
        refine wp_seq (wp_set (d := .p (.bl (due1 x))) (eb_andT hlen ?_) ?_)
        · exact eb_and (ed_isi (ep_as (ed_ixV rfl ed_cst rfl))) fun _ => eb_in (ed_ixV rfl ed_cst rfl) (ys := pol) rfl (isB_str x hx)
        · cases hd : due1 x
          · have hd2 : due [x, y] = false := by show (due1 x && due2 y) = false; rw [hd]; rfl
            rw [hd2] at last
            refine wp_seq (wp_if (et_pk rfl) (fun h => by cases h) fun _ => ?_)
            exact last
          · have hd2 : due [x, y] = due2 y := by show (due1 x && due2 y) = _; rw [hd]; rfl
            rw [hd2] at last
            refine wp_seq (wp_if (et_pk rfl) (fun _ => ?_) fun h => by cases h)
            refine wp_set (d := .p (.bl (due2 y))) ?_ ?_
            · exact eb_and (ed_isi (ep_as (ed_ixV rfl ed_cst rfl))) fun _ => eb_and (eb_not (ed_isi (ep_as (ed_ixV rfl ed_cst rfl)))) fun _ => eb_in (ed_ixV rfl ed_cst rfl) (ys := uni) rfl (isB_int y hy)
            · exact last
    · have hd : due ps = false := by
        match ps, h2 with
        | [], _ => rfl
        | [_], _ => rfl
        | _ :: _ :: _ :: _, _ => rfl
      have he : eqP (.int ps.length) (.int 2) = false := by
        show ((ps.length : Int) == 2) = false
        simp; omega
      rw [he] at hlen
      rw [hd] at last
      refine wp_seq (wp_set (eb_andF hlen) ?_)
      refine wp_seq (wp_if (et_pk rfl) (fun h => by cases h) fun _ => ?_)
      exact last
  obtain ⟨v, hv1, hv2, ev⟩ := nx_call (sl := [.v (.fz (ns.map .int)), .v (.loc 0), T, .v (.p (.tup ps0)), kk, u]) (g := rd 1) (gm := cst (.p (.int 2))) (many := 2) (xs := xs) (sd := sd) (R := []) (fun st => rd_v rfl) (fun st => rfl) ha1 (by decide)
  refine wp_seq (wp_if (b := v == 0) (s1 := ⟨[.v (.fz (ns.map .int)), .v (.loc 0), T, .v (.p (.tup ps0)), kk, u], some [drw xs (a1 + 1) sd]⟩) (by rw [bnd_ok (bnd2_ok ev ed_cst)]; rfl) (fun _ => ?_) fun _ => wp_skip (rest _ (fun _ h => h) ps0 (a1 + 1) (by omega) hp0 hl0))
  obtain ⟨v2, hw1, hw2, ev2⟩ := nx_call (sl := [.v (.fz (ns.map .int)), .v (.loc 0), T, .v (.p (.tup ps0)), kk, u]) (g := rd 1) (gm := cst (.p (.int 4))) (many := 4) (a := a1 + 1) (xs := xs) (sd := sd) (R := []) (fun st => rd_v rfl) (fun st => rfl) (by omega) (by decide)
  obtain ⟨y, hy, ey⟩ := part_call (sl := [.v (.fz (ns.map .int)), .v (.loc 0), T, .v (.p (.tup ps0)), kk, u]) (g := rd 1) (a := a1 + 1 + 1) (xs := xs) (sd := sd) (R := []) (fun st => rd_v rfl) (by omega)
  obtain ⟨n, rfl⟩ : ∃ n : Nat, v2 = n := ⟨v2.toNat, by omega⟩
  have hn : n < pol.length := by show n < 4; omega
  refine wp_bnd (a := .p (.tup [pol[n], y])) (s1 := ⟨[.v (.fz (ns.map .int)), .v (.loc 0), T, .v (.p (.tup ps0)), kk, u], some [drw xs (a1 + 1 + 1 + 1) sd]⟩) ?_ (rest _ (fun _ h => h) [pol[n], y] (a1 + 1 + 1 + 1) (by omega) (fun x hx => ?_) (by show 2 ≤ 3; decide))
  · rw [bnd_ok (consA_ok (d := .p pol[n]) (by
      rw [bnd2_ok (f := frz (bnd (consA (cst (.p (.str "first"))) (consA (cst (.p (.str "best"))) (consA (cst (.p (.str "next"))) (consA (cst (.p (.str "bump"))) nilA)))) mkLin)) (d1 := .p (.lst pol)) (s1 := ⟨[.v (.fz (ns.map .int)), .v (.loc 0), T, .v (.p (.tup ps0)), kk, u], some [drw xs (a1 + 1) sd]⟩) rfl ev2]
      unfold ixD
      rw [show ixO (.p (.lst pol)) (.p (.int n)) ⟨[.v (.fz (ns.map .int)), .v (.loc 0), T, .v (.p (.tup ps0)), kk, u], some [drw xs (a1 + 1 + 1) sd]⟩ = some (.p pol[n]) by
        show atI (pol.map D.p) n = _
        unfold atI ixN
        rw [if_pos (by omega), if_pos (by rw [List.length_map]; omega)]
        show (pol.map D.p)[((n : Nat) : Int).toNat]? = _
        rw [Int.toNat_natCast, List.getElem?_map, List.getElem?_eq_getElem hn]
        rfl]) (consA_ok ey ea_nil))]
    exact mkTup_ok (xs := [pol[n], y]) (by show 2 ≤ 16777216; decide)
  · rcases List.mem_cons.mp hx with rfl | hx
    · exact pol_parts _ (List.getElem_mem hn)
    · rw [List.mem_singleton] at hx; subst hx; exact hy
end
end K20
namespace K20
open PySem PySem.Spec PyProof.Rows L2 Dz
theorem all_mk {l : PySem.W.OpenLaw} {w : World} {K : PySem.W.Frag} {h : Heap} {mg : Str → Option Value} {fa : Addr} (X : K.In h) (G : h.Ns mainGlobals mg) (hfa : mg "law" = some (.ref fa))
    {g1 : Addr} {oc1 kV1 dc1 pm1 cd1 ct1 : Value} {od1 an1 : Option Addr} {sl1 : Array (Option Value)} (d1 : DefK K "is_index" s_is_index g1 oc1 kV1 dc1 pm1 cd1 ct1 od1 an1 sl1)
    {g2 : Addr} {oc2 kV2 dc2 pm2 cd2 ct2 : Value} {od2 an2 : Option Addr} {sl2 : Array (Option Value)} (d2 : DefK K "is_row" s_is_row g2 oc2 kV2 dc2 pm2 cd2 ct2 od2 an2 sl2)
    {g3 : Addr} {oc3 kV3 dc3 pm3 cd3 ct3 : Value} {od3 an3 : Option Addr} {sl3 : Array (Option Value)} (d3 : DefK K "is_allocator" s_is_allocator g3 oc3 kV3 dc3 pm3 cd3 ct3 od3 an3 sl3)
    {g4 : Addr} {oc4 kV4 dc4 pm4 cd4 ct4 : Value} {od4 an4 : Option Addr} {sl4 : Array (Option Value)} (d4 : DefK K "_law_draws" s__law_draws g4 oc4 kV4 dc4 pm4 cd4 ct4 od4 an4 sl4)
    {g5 : Addr} {oc5 kV5 dc5 pm5 cd5 ct5 : Value} {od5 an5 : Option Addr} {sl5 : Array (Option Value)} (d5 : DefK K "_law_reader" s__law_reader g5 oc5 kV5 dc5 pm5 cd5 ct5 od5 an5 sl5)
    {g6 : Addr} {oc6 kV6 dc6 pm6 cd6 ct6 : Value} {od6 an6 : Option Addr} {sl6 : Array (Option Value)} (d6 : DefK K "_law_next" s__law_next g6 oc6 kV6 dc6 pm6 cd6 ct6 od6 an6 sl6)
    {g7 : Addr} {oc7 kV7 dc7 pm7 cd7 ct7 : Value} {od7 an7 : Option Addr} {sl7 : Array (Option Value)} (d7 : DefK K "_law_part" s__law_part g7 oc7 kV7 dc7 pm7 cd7 ct7 od7 an7 sl7)
    {g8 : Addr} {oc8 kV8 dc8 pm8 cd8 ct8 : Value} {od8 an8 : Option Addr} {sl8 : Array (Option Value)} (d8 : DefK K "law" s_law g8 oc8 kV8 dc8 pm8 cd8 ct8 od8 an8 sl8)
    {t_MOST_UNIT : Tok} (a_MOST_UNIT : PySem.W.nsIn K mainGlobals "MOST_UNIT" = some (some (.int 8 t_MOST_UNIT)))
    {p_POLICIES : Addr} {dd_POLICIES : Option Addr} {it_POLICIES : Array Value} {n_POLICIES : Nat} {sl_POLICIES : Array (Option Value)} (a_POLICIES : PySem.W.nsIn K mainGlobals "POLICIES" = some (some (.ref p_POLICIES))) (l_POLICIES : K.lookup p_POLICIES = some ⟨.type "tuple", dd_POLICIES, .seq it_POLICIES n_POLICIES, sl_POLICIES⟩) (e_POLICIES : it_POLICIES.toList.map absV = ([.str "first", .str "best", .str "next", .str "bump"] : List V).map some)
    {p_UNITS : Addr} {dd_UNITS : Option Addr} {it_UNITS : Array Value} {n_UNITS : Nat} {sl_UNITS : Array (Option Value)} (a_UNITS : PySem.W.nsIn K mainGlobals "UNITS" = some (some (.ref p_UNITS))) (l_UNITS : K.lookup p_UNITS = some ⟨.type "tuple", dd_UNITS, .seq it_UNITS n_UNITS, sl_UNITS⟩) (e_UNITS : it_UNITS.toList.map absV = ([.int 1, .int 2, .int 4, .int 8] : List V).map some)
    (y_abs : PySem.W.nsIn K mainGlobals "abs" = some none)
    (y_bool : PySem.W.nsIn K mainGlobals "bool" = some none)
    (y_int : PySem.W.nsIn K mainGlobals "int" = some none)
    (y_isinstance : PySem.W.nsIn K mainGlobals "isinstance" = some none)
    (y_len : PySem.W.nsIn K mainGlobals "len" = some none)
    (y_min : PySem.W.nsIn K mainGlobals "min" = some none)
    (y_range : PySem.W.nsIn K mainGlobals "range" = some none)
    (y_str : PySem.W.nsIn K mainGlobals "str" = some none)
    (y_tuple : PySem.W.nsIn K mainGlobals "tuple" = some none) :
    ∃ fd : FuncData, (∀ (s : Shared) (v : Value), BindsTo s fd ⟨[v], []⟩ [("script", v)]) ∧ ∀ base : Heap, K.In base → base.Ns mainGlobals mg → FnOk l.prog w K mg base (L2.CX l.prog w) 3 fa fd ["script"] (spLaw K) := by
  have e := hfa.symm.trans (PySem.W.mg_of X G d8.a)
  cases e
  have w_is_index := d1.here X G (ps := ["thing", "many"]) fun _ _ _ _ _ _ us hl => match us, hl with | [_, _], _ => rfl
  have w_is_row := d2.here X G (ps := ["thing", "least", "most"]) fun _ _ _ _ _ _ us hl => match us, hl with | [_, _, _], _ => rfl
  have w_is_allocator := d3.here X G (ps := ["thing"]) fun _ _ _ _ _ _ us hl => match us, hl with | [_], _ => rfl
  have w__law_draws := d4.here X G (ps := ["script"]) fun _ _ _ _ _ _ us hl => match us, hl with | [_], _ => rfl
  have w__law_reader := d5.here X G (ps := ["script"]) fun _ _ _ _ _ _ us hl => match us, hl with | [_], _ => rfl
  have w__law_next := d6.here X G (ps := ["draws", "many"]) fun _ _ _ _ _ _ us hl => match us, hl with | [_, _], _ => rfl
  have w__law_part := d7.here X G (ps := ["draws"]) fun _ _ _ _ _ _ us hl => match us, hl with | [_], _ => rfl
  have w_law := d8.here X G (ps := ["script"]) fun _ _ _ _ _ _ us hl => match us, hl with | [_], _ => rfl
  have c_MOST_UNIT : Cst K mg "MOST_UNIT" k_MOST_UNIT := cst_int X G a_MOST_UNIT
  have c_POLICIES : Cst K mg "POLICIES" k_POLICIES := cst_tup [.str "first", .str "best", .str "next", .str "bump"] X G a_POLICIES l_POLICIES e_POLICIES rfl (by decide +kernel)
  have c_UNITS : Cst K mg "UNITS" k_UNITS := cst_tup [.int 1, .int 2, .int 4, .int 8] X G a_UNITS l_UNITS e_UNITS rfl (by decide +kernel)
  have z_abs := PySem.W.mg_none_of X G y_abs
  have z_bool := PySem.W.mg_none_of X G y_bool
  have z_int := PySem.W.mg_none_of X G y_int
  have z_isinstance := PySem.W.mg_none_of X G y_isinstance
  have z_len := PySem.W.mg_none_of X G y_len
  have z_min := PySem.W.mg_none_of X G y_min
  have z_range := PySem.W.mg_none_of X G y_range
  have z_str := PySem.W.mg_none_of X G y_str
  have z_tuple := PySem.W.mg_none_of X G y_tuple
  refine ⟨PySem.W.fnOf "law" "law" (defArgs s_law) (defBody s_law) (defScope s_law) .none kV8 dc8 pm8 an8 cd8 ct8, fun s v => .of_eq rfl, fun base _ _ => ?_⟩
  have h_is_index := ok_is_index (P := l.prog) (wd := w) (base := base) z_bool z_int z_isinstance w_is_index
  have h_is_row := ok_is_row (P := l.prog) (wd := w) (base := base) z_isinstance z_len z_tuple w_is_row
  have h_is_allocator := ok_is_allocator (P := l.prog) (wd := w) (base := base) h_is_index h_is_row c_MOST_UNIT c_POLICIES c_UNITS w_is_allocator
  have h__law_draws := ok__law_draws (P := l.prog) (wd := w) (base := base) z_abs z_int z_len z_min z_range w__law_draws
  have h__law_reader := ok__law_reader (P := l.prog) (wd := w) (base := base) h__law_draws z_abs z_len w__law_reader
  have h__law_next := ok__law_next (P := l.prog) (wd := w) (base := base) z_int z_len w__law_next
  have h__law_part := ok__law_part (P := l.prog) (wd := w) (base := base) h__law_next z_len w__law_part
  have F_law := fun_mk (st := s_law) d8.l d8.c d8.k
  exact law_fn law_true (ok_law_at h__law_next h__law_part h__law_reader h_is_allocator z_bool z_int z_isinstance z_len z_range z_str z_tuple F_law)
end K20
open PySem PySem.W PyProof.Rows
local macro_rules | `(tactic| walk_at "defk") => `(tactic| (refine' Dz.DefK.mk ?a ?l ?c ?k; (case a => k_is); (case l => k_is); (case c => k_is); (case k => k_is)))
set_option maxRecDepth 100000 in
set_option maxHeartbeats 0 in
theorem PySem.Challenge.cw_oneowner_k20_allocators_and_what_is_none_holds : PySem.Challenge.rw_oneowner_k20_allocators_and_what_is_none.Holds := by
  w_on; o_law; k_head; (case hw => w_witness2)
  k_fill
  refine L2.walk_of (l := PySem.Challenge.rw_oneowner_k20_allocators_and_what_is_none) (n := 63) (k := 3) (x := "script") (CX := fun w => L2.CX PySem.Challenge.rw_oneowner_k20_allocators_and_what_is_none.prog w) (sp := fun w => Dz.spLaw _) rfl (by decide) rfl ⟨rfl, by decide, by decide⟩ (fun w h Y => PySem.W.kIn_of Y) ?F (fun _ _ a ns hl hO hS => ⟨a, ns, rfl, hl, hO, hS, fun _ => rfl⟩) (fun _ _ _ _ _ ⟨_, _, _, _, _, _, _, _, _, _, _, _, h⟩ => h)
  case F =>
    intro w mg fa h KX G hmg
    refine' K20.all_mk KX G hmg ?d1 ?d2 ?d3 ?d4 ?d5 ?d6 ?d7 ?d8 ?a_MOST_UNIT ?a_POLICIES ?l_POLICIES ?e_POLICIES ?a_UNITS ?l_UNITS ?e_UNITS ?y_abs ?y_bool ?y_int ?y_isinstance ?y_len ?y_min ?y_range ?y_str ?y_tuple
    (case d1 => walk_at "defk"); (case d2 => walk_at "defk"); (case d3 => walk_at "defk"); (case d4 => walk_at "defk"); (case d5 => walk_at "defk"); (case d6 => walk_at "defk")
    (case d7 => walk_at "defk"); (case d8 => walk_at "defk"); (case a_MOST_UNIT => k_is); (case a_POLICIES => k_is); (case l_POLICIES => k_is); (case e_POLICIES => rfl)
    (case a_UNITS => k_is); (case l_UNITS => k_is); (case e_UNITS => rfl); (case y_abs => k_is); (case y_bool => k_is); (case y_int => k_is)
    (case y_isinstance => k_is); (case y_len => k_is); (case y_min => k_is); (case y_range => k_is); (case y_str => k_is); (case y_tuple => k_is)
