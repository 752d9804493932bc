import PyProof.Rows.All
import Wide.All
import OpenK.AllK
import Wide.FinOn
import HandS.ForMost
import HandS.ForExc
import HandS.Conv
import HandS.More
import HandS.IsInst
import HandS.Style
import HandS.SortKw
import KE.KDictCopyH
import KE.SortData
import PySem.Challenge.RW_galleypapers_k32_rows_of_glyphs
set_option Elab.async false
set_option linter.all false
set_option maxRecDepth 100000
/-! Values as plain data, a store of cells that may be changed, and what a reading makes of them. -/
namespace M
open PySem L2

/-- plain data; ptr i: the i-th cell of the store -/
inductive D where
  | non | bl (b : Bool) | int (i : Int) | str (s : Str) | tup (ds : List D) | lst (ds : List D)
  | dct (kvs : List (Key × D)) | dcT (kvs : List (List Key × D)) | ptr (i : Nat) | scr (ns : List Int)
  deriving Inhabited
/-- a cell: a thing that may be changed -/
inductive Cell where
  | lst (ds : List D) | dct (kvs : List (Key × D)) | dcT (kvs : List (List Key × D)) | ins (C : Addr) (fs : List (Str × D))
abbrev Sto := List (Option Cell)
abbrev Sl := List (Option D)
/-- an error of an own class, with its attributes -/
structure Exn where
  C : Addr
  fs : List (Str × D)

/-- what can be read can still be read -/
structure Le (F F' : Hp) : Prop where
  lst : ∀ a xs, F a = some (.lst xs) → F' a = some (.lst xs)
  tup : ∀ a xs, F a = some (.tup xs) → F' a = some (.tup xs)
  dk : ∀ a kvs, Rd F a (.dK kvs) → Rd F' a (.dK kvs)
  dt : ∀ a kvs, Rd F a (.dT kvs) → Rd F' a (.dT kvs)
  sq : ∀ a xs, Rd F a (.lst xs) → Rd F' a (.lst xs)
theorem Le.refl (F : Hp) : Le F F := ⟨fun _ _ h => h, fun _ _ h => h, fun _ _ h => h, fun _ _ h => h, fun _ _ h => h⟩
theorem Le.trans {F G J : Hp} (a : Le F G) (b : Le G J) : Le F J :=
  ⟨fun x u h => b.lst x u (a.lst x u h), fun x u h => b.tup x u (a.tup x u h), fun x u h => b.dk x u (a.dk x u h), fun x u h => b.dt x u (a.dt x u h), fun x u h => b.sq x u (a.sq x u h)⟩
theorem rd_of {F G : Hp} (h : ∀ a u, F a = some u → G a = some u) {a : Addr} {u : HO} (r : Rd F a u) : Rd G a u := by
  rcases r with r | ⟨o, r⟩
  · exact .inl (h a _ r)
  · exact .inr ⟨o, h a _ r⟩
theorem Le.of {F G : Hp} (h : ∀ a u, F a = some u → G a = some u) : Le F G :=
  ⟨fun _ _ e => h _ _ e, fun _ _ e => h _ _ e, fun _ _ r => rd_of h r, fun _ _ r => rd_of h r, fun _ _ r => rd_of h r⟩
theorem Le.sqL {K : PySem.W.Frag} {F G : Hp} {a : Addr} {xs : List V} (l : Le F G) (h : SqL K F a xs) : SqL K G a xs := h.imp (l.sq a _) id

mutual
inductive Rep (K : PySem.W.Frag) (F : Hp) (α : List Addr) : V → D → Prop
  | non : Rep K F α .non .non
  | bl (b : Bool) : Rep K F α (.bl b) (.bl b)
  | int (i : Int) : Rep K F α (.int i) (.int i)
  | str (s : Str) : Rep K F α (.str s) (.str s)
  | tup {a : Addr} {xs : List V} {ds : List D} : F a = some (.tup xs) → Reps K F α xs ds → Rep K F α (.ref a) (.tup ds)
  | lst {a : Addr} {xs : List V} {ds : List D} : F a = some (.lst xs) → Reps K F α xs ds → Rep K F α (.ref a) (.lst ds)
  | dct {a : Addr} {kvs : List (Key × V)} {ds : List (Key × D)} : Rd F a (.dK kvs) → kvs.map (·.1) = ds.map (·.1) → Reps K F α (kvs.map (·.2)) (ds.map (·.2)) → Rep K F α (.ref a) (.dct ds)
  | dcT {a : Addr} {kvs : List (List Key × V)} {ds : List (List Key × D)} : Rd F a (.dT kvs) → kvs.map (·.1) = ds.map (·.1) → Reps K F α (kvs.map (·.2)) (ds.map (·.2)) → Rep K F α (.ref a) (.dcT ds)
  | ptr {a : Addr} {i : Nat} : α[i]? = some a → Rep K F α (.ref a) (.ptr i)
  | scr {a : Addr} {ns : List Int} : SqL K F a (ns.map V.int) → Rep K F α (.ref a) (.scr ns)
inductive Reps (K : PySem.W.Frag) (F : Hp) (α : List Addr) : List V → List D → Prop
  | nil : Reps K F α [] []
  | cons {v : V} {d : D} {vs : List V} {ds : List D} : Rep K F α v d → Reps K F α vs ds → Reps K F α (v :: vs) (d :: ds)
end
section
variable {K : PySem.W.Frag} {F F' : Hp} {α α' : List Addr}
def Pre (α α' : List Addr) : Prop := ∀ (i : Nat) a, α[i]? = some a → α'[i]? = some a
theorem Pre.refl (α : List Addr) : Pre α α := fun _ _ h => h
theorem Pre.trans {α β γ : List Addr} (a : Pre α β) (b : Pre β γ) : Pre α γ := fun i x h => b i x (a i x h)
theorem Pre.app (α β : List Addr) : Pre α (α ++ β) := fun i a h => by
  rw [List.getElem?_append_left (List.getElem?_eq_some_iff.mp h).1]; exact h
mutual
theorem Rep.mono (l : Le F F') (p : Pre α α') : ∀ {v : V} {d : D}, Rep K F α v d → Rep K F' α' v d
  | _, _, .non => .non
  | _, _, .bl b => .bl b
  | _, _, .int i => .int i
  | _, _, .str s => .str s
  | _, _, .tup h r => .tup (l.tup _ _ h) (Reps.mono l p r)
  | _, _, .lst h r => .lst (l.lst _ _ h) (Reps.mono l p r)
  | _, _, .dct h e r => .dct (l.dk _ _ h) e (Reps.mono l p r)
  | _, _, .dcT h e r => .dcT (l.dt _ _ h) e (Reps.mono l p r)
  | _, _, .ptr h => .ptr (p _ _ h)
  | _, _, .scr h => .scr (l.sqL h)
theorem Reps.mono (l : Le F F') (p : Pre α α') : ∀ {vs : List V} {ds : List D}, Reps K F α vs ds → Reps K F' α' vs ds
  | _, _, .nil => .nil
  | _, _, .cons h r => .cons (Rep.mono l p h) (Reps.mono l p r)
end
theorem Reps.length : ∀ {vs : List V} {ds : List D}, Reps K F α vs ds → vs.length = ds.length
  | _, _, .nil => rfl
  | _, _, .cons _ r => congrArg (· + 1) r.length
theorem Reps.get : ∀ {vs : List V} {ds : List D} {i : Nat} {d : D}, Reps K F α vs ds → ds[i]? = some d → ∃ v, vs[i]? = some v ∧ Rep K F α v d
  | _, _, _, _, .nil, e => by simp at e
  | _, _, 0, _, .cons h _, e => by simp at e; subst e; exact ⟨_, rfl, h⟩
  | _, _, i + 1, d, .cons _ r, e => by
    obtain ⟨v, h1, h2⟩ := Reps.get (i := i) (d := d) r (by simpa using e)
    exact ⟨v, by simpa using h1, h2⟩
theorem Reps.got : ∀ {vs : List V} {ds : List D} {i : Nat} {v : V}, Reps K F α vs ds → vs[i]? = some v → ∃ d, ds[i]? = some d ∧ Rep K F α v d
  | _, _, _, _, .nil, e => by simp at e
  | _, _, 0, _, .cons h _, e => by simp at e; subst e; exact ⟨_, rfl, h⟩
  | _, _, i + 1, d, .cons _ r, e => by
    obtain ⟨v, h1, h2⟩ := Reps.got (i := i) (v := d) r (by simpa using e)
    exact ⟨v, by simpa using h1, h2⟩
theorem Reps.append : ∀ {vs ws : List V} {ds es : List D}, Reps K F α vs ds → Reps K F α ws es → Reps K F α (vs ++ ws) (ds ++ es)
  | _, _, _, _, .nil, s => s
  | _, _, _, _, .cons h r, s => .cons h (r.append s)
theorem Reps.set {v : V} {d : D} (h : Rep K F α v d) : ∀ {vs : List V} {ds : List D} (i : Nat), Reps K F α vs ds → Reps K F α (vs.set i v) (ds.set i d)
  | _, _, _, .nil => .nil
  | _, _, 0, .cons _ r => .cons h r
  | _, _, i + 1, .cons g r => .cons g (Reps.set h i r)
theorem Reps.take : ∀ {vs : List V} {ds : List D} (i : Nat), Reps K F α vs ds → Reps K F α (vs.take i) (ds.take i)
  | _, _, 0, _ => .nil
  | _, _, _ + 1, .nil => .nil
  | _, _, i + 1, .cons g r => .cons g (Reps.take i r)
theorem Reps.drop : ∀ {vs : List V} {ds : List D} (i : Nat), Reps K F α vs ds → Reps K F α (vs.drop i) (ds.drop i)
  | _, _, 0, r => r
  | _, _, _ + 1, .nil => .nil
  | _, _, i + 1, .cons _ r => Reps.drop i r
theorem Reps.reverse : ∀ {vs : List V} {ds : List D}, Reps K F α vs ds → Reps K F α vs.reverse ds.reverse
  | _, _, .nil => .nil
  | _, _, .cons h r => by
    rw [List.reverse_cons, List.reverse_cons]
    exact r.reverse.append (.cons h .nil)
end

/-! ### the world: a store, its addresses, the still part, the heap -/
structure Ws where
  st : Sto
  al : List Addr
  F : Hp
  H : Hp
def Live (st : Sto) (i : Nat) : Prop := ∃ c, st[i]? = some (some c)
/-- a cell stands at a -/
inductive CellAt (K : PySem.W.Frag) (F : Hp) (α : List Addr) (H : Hp) (a : Addr) : Cell → Prop
  | lst {xs : List V} {ds : List D} : H a = some (.lst xs) → Reps K F α xs ds → CellAt K F α H a (.lst ds)
  | dct {kvs : List (Key × V)} {ds : List (Key × D)} : H a = some (.dK kvs) → kvs.map (·.1) = ds.map (·.1) → Reps K F α (kvs.map (·.2)) (ds.map (·.2)) → CellAt K F α H a (.dct ds)
  | dcT {kvs : List (List Key × V)} {ds : List (List Key × D)} : H a = some (.dT kvs) → kvs.map (·.1) = ds.map (·.1) → Reps K F α (kvs.map (·.2)) (ds.map (·.2)) → CellAt K F α H a (.dcT ds)
  | ins {C dx : Addr} {fs : List (Str × V)} {ds : List (Str × D)} : H a = some (.ins C dx fs) → fs.map (·.1) = ds.map (·.1) → Reps K F α (fs.map (·.2)) (ds.map (·.2)) → CellAt K F α H a (.ins C ds)
theorem CellAt.some {K : PySem.W.Frag} {F H : Hp} {α : List Addr} {a : Addr} {c : Cell} (h : CellAt K F α H a c) : H a ≠ none := by
  cases h with
  | lst h _ => rw [h]; exact Option.some_ne_none _
  | dct h _ _ => rw [h]; exact Option.some_ne_none _
  | dcT h _ _ => rw [h]; exact Option.some_ne_none _
  | ins h _ _ => rw [h]; exact Option.some_ne_none _
theorem CellAt.mono {K : PySem.W.Frag} {F F' H H' : Hp} {α α' : List Addr} {a : Addr} {c : Cell} (l : Le F F') (p : Pre α α') (e : H' a = H a) (h : CellAt K F α H a c) : CellAt K F' α' H' a c := by
  cases h with
  | lst h r => exact .lst (e.trans h) (r.mono l p)
  | dct h k r => exact .dct (e.trans h) k (r.mono l p)
  | dcT h k r => exact .dcT (e.trans h) k (r.mono l p)
  | ins h k r => exact .ins (e.trans h) k (r.mono l p)
structure Ok (K : PySem.W.Frag) (w : Ws) : Prop where
  len : w.al.length = w.st.length
  sub : ∀ a u, w.F a = some u → w.H a = some u
  own : ∀ (i : Nat) c, w.st[i]? = some (some c) → ∃ a, w.al[i]? = some a ∧ w.F a = none ∧ CellAt K w.F w.al w.H a c
  inj : ∀ (i j : Nat) a, Live w.st i → Live w.st j → w.al[i]? = some a → w.al[j]? = some a → i = j
/-- a is one of the cells -/
def Own (w : Ws) (a : Addr) : Prop := ∃ i, Live w.st i ∧ w.al[i]? = some a
structure Step (w w' : Ws) : Prop where
  pre : Pre w.al w'.al
  le : Le w.F w'.F
  frame : ∀ b o, w.H b = some o → ¬ Own w b → w'.H b = some o
  old : ∀ b, w.H b ≠ none → (∀ xs, w.H b ≠ some (.tup xs)) → ¬ Own w b → w'.F b = w.F b
  there : ∀ b, w.H b ≠ none → w'.H b ≠ none
  news : ∀ b, Own w' b → Own w b ∨ w.H b = none
theorem Step.refl (w : Ws) : Step w w := ⟨Pre.refl _, Le.refl _, fun _ _ h _ => h, fun _ _ _ _ => rfl, fun _ h => h, fun _ h => .inl h⟩
theorem Step.trans {w w1 w2 : Ws} (a : Step w w1) (b : Step w1 w2) : Step w w2 := by
  refine ⟨a.pre.trans b.pre, a.le.trans b.le, fun x o h n => ?_, fun x h t n => ?_, fun x h => b.there x (a.there x h), fun x h => ?_⟩
  · have n1 : ¬ Own w1 x := fun z => (a.news x z).elim n fun e => by rw [h] at e; cases e
    exact b.frame x o (a.frame x o h n) n1
  · have n1 : ¬ Own w1 x := fun z => (a.news x z).elim n h
    have t1 : ∀ xs, w1.H x ≠ some (.tup xs) := fun xs e => by
      cases q : w.H x with
      | none => exact h q
      | some o =>
        rw [a.frame x o q n] at e
        exact t xs (q.trans e)
    exact (b.old x (a.there x h) t1 n1).trans (a.old x h t n)
  · rcases b.news x h with z | z
    · exact a.news x z
    · refine .inr ?_
      cases q : w.H x with
      | none => rfl
      | some o => exact absurd z (a.there x (by rw [q]; exact Option.some_ne_none _))

/-! ### results -/
inductive R (τ : Type) where
  | ok (x : τ) (st : Sto)
  | exc (e : Exn) (st : Sto)
abbrev MM (τ : Type) := Option (R τ)
def ret {τ : Type} (x : τ) (st : Sto) : MM τ := some (.ok x st)
def bnd {τ υ : Type} (m : MM τ) (k : τ → Sto → MM υ) : MM υ := match m with
  | none => none
  | some (.ok x st) => k x st
  | some (.exc e st) => some (.exc e st)
theorem bnd_ret {τ υ : Type} (x : τ) (st : Sto) (k : τ → Sto → MM υ) : bnd (ret x st) k = k x st := rfl
theorem bnd_ok {τ υ : Type} (x : τ) (st : Sto) (k : τ → Sto → MM υ) : bnd (some (.ok x st)) k = k x st := rfl
theorem bnd_none {τ υ : Type} (k : τ → Sto → MM υ) : bnd none k = none := rfl
theorem bnd_assoc {τ υ φ : Type} (m : MM τ) (k : τ → Sto → MM υ) (j : υ → Sto → MM φ) : bnd (bnd m k) j = bnd m fun x st => bnd (k x st) j := by
  cases m with
  | none => rfl
  | some r => cases r <;> rfl
abbrev FE := Sl → Sto → MM D
abbrev FT := Sl → Sto → MM Bool
abbrev FA := Sl → Sto → MM (List D)
/-- how an error is borne -/
def RepX (K : PySem.W.Frag) (w : Ws) (e : Exn) : Option Addr → Prop
  | none => e.fs = []
  | some d => ∃ vs : List (Str × V), w.H d = some (.xd vs) ∧ w.F d = none ∧ vs.map (·.1) = e.fs.map (·.1) ∧ Reps K w.F w.al (vs.map (·.2)) (e.fs.map (·.2))
def Post {τ υ : Type} (K : PySem.W.Frag) (E : XK) (rp : Ws → υ → τ → Prop) (w : Ws) (m : MM τ) (Q : υ → Hp → Prop) : Prop := match m with
  | none => False
  | some (.ok x st) => ∀ (v : υ) (w' : Ws), w'.st = st → Ok K w' → Step w w' → rp w' v x → Q v w'.H
  | some (.exc e st) => ∀ (d : Option Addr) (w' : Ws), w'.st = st → Ok K w' → Step w w' → RepX K w' e d → E (.ref e.C) d w'.H
abbrev rD (K : PySem.W.Frag) : Ws → V → D → Prop := fun w v d => Rep K w.F w.al v d
abbrev rB : Ws → Bool → Bool → Prop := fun _ a b => a = b
abbrev rA (K : PySem.W.Frag) : Ws → List V → List D → Prop := fun w v d => Reps K w.F w.al v d
theorem Post.step {τ υ : Type} {K : PySem.W.Frag} {E : XK} {rp : Ws → υ → τ → Prop} {w w1 : Ws} {m : MM τ} {Q : υ → Hp → Prop} (s : Step w w1) (h : Post K E rp w m Q) : Post K E rp w1 m Q := by
  match m, h with
  | some (.ok x st), h => exact fun v w' e o t r => h v w' e o (s.trans t) r
  | some (.exc e st), h => exact fun d w' q o t r => h d w' q o (s.trans t) r
/-- what is wanted, weaker -/
theorem Post.imp {τ υ : Type} {K : PySem.W.Frag} {E : XK} {rp : Ws → υ → τ → Prop} {w : Ws} {m : MM τ} {Q Q' : υ → Hp → Prop} (h : Post K E rp w m Q) (k : ∀ v H, Q v H → Q' v H) : Post K E rp w m Q' := by
  match m, h with
  | some (.ok x st), h => exact fun v w' e o t r => k _ _ (h v w' e o t r)
  | some (.exc e st), h => exact fun d w' q o t r => h d w' q o t r
theorem post_ret {τ υ : Type} {K : PySem.W.Frag} {E : XK} {rp : Ws → υ → τ → Prop} {w : Ws} {x : τ} {Q : υ → Hp → Prop} (o : Ok K w) {v : υ} (r : rp w v x) (h : Post K E rp w (ret x w.st) Q) : Q v w.H := h v w rfl o (Step.refl w) r
structure Slots (K : PySem.W.Frag) (w : Ws) (sl : Sl) (σ : St) : Prop where
  len : σ.length = sl.length
  get : ∀ (i : Nat) d, sl[i]? = some (some d) → ∃ v, σ[i]? = some (some v) ∧ Rep K w.F w.al v d
theorem Slots.step {K : PySem.W.Frag} {w w' : Ws} {sl : Sl} {σ : St} (s : Step w w') (h : Slots K w sl σ) : Slots K w' sl σ := ⟨h.len, fun i d e => let ⟨v, a, b⟩ := h.get i d e; ⟨v, a, b.mono s.le s.pre⟩⟩
theorem Slots.set {K : PySem.W.Frag} {w : Ws} {sl : Sl} {σ : St} {i : Nat} {v : V} {d : D} (h : Slots K w sl σ) (r : Rep K w.F w.al v d) : Slots K w (sl.set i (some d)) (σ.set i (some v)) := by
  refine ⟨by rw [List.length_set, List.length_set]; exact h.len, fun j e q => ?_⟩
  by_cases hj : i = j
  · subst hj
    by_cases hi : i < sl.length
    · rw [List.getElem?_set_self hi] at q
      rw [List.getElem?_set_self (by rw [h.len]; exact hi)]
      cases q; exact ⟨_, rfl, r⟩
    · rw [List.getElem?_eq_none (by rw [List.length_set]; omega)] at q; cases q
  · rw [List.getElem?_set_ne hj] at q
    rw [List.getElem?_set_ne hj]
    exact h.get j e q
/-- the reading of an expression refines a plain function -/
def RefE (K : PySem.W.Frag) (E : XK) (t : TE) (f : FE) : Prop := ∀ sl σ w (Q : VK), Ok K w → Slots K w sl σ → Post K E (rD K) w (f sl w.st) Q → t σ w.H Q
def RefT (K : PySem.W.Frag) (E : XK) (t : TT) (f : FT) : Prop := ∀ sl σ w (Q : Bool → Hp → Prop), Ok K w → Slots K w sl σ → Post K E rB w (f sl w.st) Q → t σ w.H Q
def RefA (K : PySem.W.Frag) (E : XK) (t : TA) (f : FA) : Prop := ∀ sl σ w (Q : List V → Hp → Prop), Ok K w → Slots K w sl σ → Post K E (rA K) w (f sl w.st) Q → t σ w.H Q
/-- from a part to what goes on with it -/
theorem post_bnd {τ υ τ' υ' : Type} {K : PySem.W.Frag} {E : XK} {rp : Ws → υ → τ → Prop} {rp' : Ws → υ' → τ' → Prop} {w : Ws} {m : MM τ} {k : τ → Sto → MM τ'} {Q' : υ' → Hp → Prop} {Q : υ → Hp → Prop}
    (h : Post K E rp' w (bnd m k) Q') (g : ∀ v x w1, Ok K w1 → Step w w1 → rp w1 v x → Post K E rp' w1 (k x w1.st) Q' → Q v w1.H) : Post K E rp w m Q := by
  match m, h with
  | some (.ok x st), h => exact fun v w1 e o s r => g v x w1 o s r (Post.step s (by rw [e]; exact h))
  | some (.exc e st), h => exact h
end M

namespace M
open PySem L2
section
variable {K : PySem.W.Frag} {w : Ws}
theorem Ok.H_of_F (o : Ok K w) {a : Addr} (h : w.H a = none) : w.F a = none := by
  cases q : w.F a with
  | none => rfl
  | some u => rw [o.sub a u q] at h; cases h
theorem Ok.own_H (o : Ok K w) {a : Addr} (h : Own w a) : w.H a ≠ none ∧ w.F a = none := by
  obtain ⟨i, ⟨c, hc⟩, e⟩ := h
  obtain ⟨b, e2, f, ca⟩ := o.own i c hc
  rw [e] at e2; cases e2
  exact ⟨ca.some, f⟩
/-- a new thing that stays as it is -/
def Ws.newV (w : Ws) (p : Addr) (o : HO) : Ws := ⟨w.st, w.al, upd w.F p o, upd w.H p o⟩
theorem step_newV (o : Ok K w) {p : Addr} (hp : w.H p = none) (u : HO) : Step w (w.newV p u) := by
  refine ⟨Pre.refl _, Le.of fun a x e => ?_, fun b x e _ => ?_, fun b e _ _ => ?_, fun b e => ?_, fun b h => .inl h⟩
  · show upd w.F p u a = some x
    rw [upd_ne (ne_of_none e (o.H_of_F hp))]; exact e
  · show upd w.H p u b = some x
    rw [upd_ne (ne_of_none e hp)]; exact e
  · show upd w.F p u b = w.F b
    exact upd_ne fun z => e (by rw [z]; exact hp)
  · show upd w.H p u b ≠ none
    by_cases z : b = p
    · subst z; rw [upd_same]; exact Option.some_ne_none _
    · rw [upd_ne z]; exact e
theorem ok_newV (o : Ok K w) {p : Addr} (hp : w.H p = none) (u : HO) : Ok K (w.newV p u) := by
  have s := step_newV o hp u
  refine ⟨o.len, fun a x e => ?_, fun i c h => ?_, o.inj⟩
  · by_cases z : a = p
    · subst z
      have e' : upd w.F a u a = some x := e
      rw [upd_same] at e'
      show upd w.H a u a = some x
      rw [upd_same]; exact e'
    · have e' : upd w.F p u a = some x := e
      rw [upd_ne z] at e'
      show upd w.H p u a = some x
      rw [upd_ne z]; exact o.sub _ _ e'
  · obtain ⟨a, e, f, ca⟩ := o.own i c h
    have z : a ≠ p := fun q => ca.some (by rw [q]; exact hp)
    exact ⟨a, e, (show upd w.F p u a = none by rw [upd_ne z]; exact f), ca.mono s.le s.pre (show upd w.H p u a = w.H a from upd_ne z)⟩
/-- a new cell -/
def Ws.newC (w : Ws) (p : Addr) (o : HO) (c : Cell) : Ws := ⟨w.st ++ [some c], w.al ++ [p], w.F, upd w.H p o⟩
theorem live_app {st : Sto} {c : Option Cell} {i : Nat} (h : Live (st ++ [c]) i) : Live st i ∨ i = st.length := by
  obtain ⟨d, e⟩ := h
  by_cases z : i < st.length
  · rw [List.getElem?_append_left z] at e; exact .inl ⟨d, e⟩
  · refine .inr ?_
    have q := (List.getElem?_eq_some_iff.mp e).1
    rw [List.length_append, List.length_singleton] at q
    omega
theorem Live.lt {st : Sto} {i : Nat} (h : Live st i) : i < st.length := let ⟨_, e⟩ := h; (List.getElem?_eq_some_iff.mp e).1
theorem step_newC (o : Ok K w) {p : Addr} (hp : w.H p = none) (u : HO) (c : Cell) : Step w (w.newC p u c) := by
  refine ⟨Pre.app _ _, Le.refl _, fun b x e _ => ?_, fun b e _ _ => rfl, fun b e => ?_, fun b h => ?_⟩
  · show upd w.H p u b = some x
    rw [upd_ne (ne_of_none e hp)]; exact e
  · show upd w.H p u b ≠ none
    by_cases z : b = p
    · subst z; rw [upd_same]; exact Option.some_ne_none _
    · rw [upd_ne z]; exact e
  · obtain ⟨i, l, e⟩ := h
    have e' : (w.al ++ [p])[i]? = some b := e
    rcases live_app l with z | z
    · rw [List.getElem?_append_left (by rw [o.len]; exact z.lt)] at e'
      exact .inl ⟨i, z, e'⟩
    · rw [List.getElem?_append_right (by rw [o.len, z]; exact Nat.le_refl _), o.len, z, Nat.sub_self] at e'
      cases e'
      exact .inr hp
theorem ok_newC (o : Ok K w) {p : Addr} (hp : w.H p = none) {u : HO} {c : Cell} (hc : CellAt K w.F (w.al ++ [p]) (upd w.H p u) p c) : Ok K (w.newC p u c) := by
  have s := step_newC o hp u c
  have old : ∀ (i : Nat) a, Live w.st i → (w.al ++ [p])[i]? = some a → w.al[i]? = some a := fun i a l e => by
    rw [List.getElem?_append_left (by rw [o.len]; exact l.lt)] at e; exact e
  have new : ∀ (i : Nat) a, i = w.st.length → (w.al ++ [p])[i]? = some a → a = p := fun i a l e => by
    rw [List.getElem?_append_right (by rw [o.len, l]; exact Nat.le_refl _), o.len, l, Nat.sub_self] at e
    cases e; rfl
  have np : ∀ i, Live w.st i → w.al[i]? ≠ some p := fun i l e => (o.own_H ⟨i, l, e⟩).1 hp
  refine ⟨?_, fun a x e => ?_, fun i d h => ?_, fun i j a li lj ei ej => ?_⟩
  · show (w.al ++ [p]).length = (w.st ++ [some c]).length
    rw [List.length_append, List.length_append, o.len]; rfl
  · show upd w.H p u a = some x
    rw [upd_ne (ne_of_none e (o.H_of_F hp))]; exact o.sub _ _ e
  · have h' : (w.st ++ [some c])[i]? = some (some d) := h
    by_cases z : i < w.st.length
    · rw [List.getElem?_append_left z] at h'
      obtain ⟨a, e, f, ca⟩ := o.own i d h'
      have na : a ≠ p := fun q => ca.some (by rw [q]; exact hp)
      exact ⟨a, s.pre _ _ e, f, ca.mono s.le s.pre (show upd w.H p u a = w.H a from upd_ne na)⟩
    · have q := (List.getElem?_eq_some_iff.mp h').1
      rw [List.length_append, List.length_singleton] at q
      have ei : i = w.st.length := by omega
      subst ei
      rw [List.getElem?_append_right (Nat.le_refl _), Nat.sub_self] at h'
      cases h'
      refine ⟨p, ?_, o.H_of_F hp, hc⟩
      show (w.al ++ [p])[w.st.length]? = some p
      rw [List.getElem?_append_right (by rw [o.len]; exact Nat.le_refl _), o.len, Nat.sub_self]; rfl
  · rcases live_app li with zi | zi <;> rcases live_app lj with zj | zj
    · exact o.inj i j a zi zj (old i a zi ei) (old j a zj ej)
    · exact absurd (by rw [← new j a zj ej]; exact old i a zi ei) (np i zi)
    · exact absurd (by rw [← new i a zi ei]; exact old j a zj ej) (np j zj)
    · rw [zi, zj]
/-- a cell is written -/
def Ws.put (w : Ws) (i : Nat) (a : Addr) (o : HO) (c : Cell) : Ws := ⟨w.st.set i (some c), w.al, w.F, upd w.H a o⟩
theorem live_set {st : Sto} {i j : Nat} {c : Cell} (li : Live st i) : Live (st.set i (some c)) j → Live st j := fun ⟨d, e⟩ => by
  by_cases z : i = j
  · subst z; exact li
  · rw [List.getElem?_set_ne z] at e; exact ⟨d, e⟩
theorem step_put {i : Nat} {a : Addr} (o : Ok K w) (l : Live w.st i) (ea : w.al[i]? = some a) (u : HO) (c : Cell) : Step w (w.put i a u c) := by
  have ow : Own w a := ⟨i, l, ea⟩
  refine ⟨Pre.refl _, Le.refl _, fun b x e n => ?_, fun b e _ _ => rfl, fun b e => ?_, fun b ⟨j, lj, e⟩ => .inl ⟨j, live_set l lj, e⟩⟩
  · show upd w.H a u b = some x
    rw [upd_ne fun z => n (by rw [z]; exact ow)]; exact e
  · show upd w.H a u b ≠ none
    by_cases z : b = a
    · subst z; rw [upd_same]; exact Option.some_ne_none _
    · rw [upd_ne z]; exact e
theorem ok_put {i : Nat} {a : Addr} (o : Ok K w) (l : Live w.st i) (ea : w.al[i]? = some a) {u : HO} {c : Cell} (hc : CellAt K w.F w.al (upd w.H a u) a c) : Ok K (w.put i a u c) := by
  have ow : Own w a := ⟨i, l, ea⟩
  obtain ⟨hH, hF⟩ := o.own_H ow
  refine ⟨?_, fun b x e => ?_, fun j d h => ?_, fun j k b lj lk ej ek => o.inj j k b (live_set l lj) (live_set l lk) ej ek⟩
  · show w.al.length = (w.st.set i (some c)).length
    rw [List.length_set]; exact o.len
  · show upd w.H a u b = some x
    rw [upd_ne (ne_of_none e hF)]; exact o.sub _ _ e
  · have h' : (w.st.set i (some c))[j]? = some (some d) := h
    by_cases z : i = j
    · subst z
      rw [List.getElem?_set_self l.lt] at h'
      cases h'
      exact ⟨a, ea, hF, hc⟩
    · rw [List.getElem?_set_ne z] at h'
      obtain ⟨b, e, f, cb⟩ := o.own j d h'
      have nb : b ≠ a := fun q => z (o.inj i j a l ⟨d, h'⟩ ea (by rw [← q]; exact e))
      exact ⟨b, e, f, cb.mono (Le.refl _) (Pre.refl _) (show upd w.H a u b = w.H b from upd_ne nb)⟩
/-- a cell is let be: it will not be changed any more -/
def Ws.frz (w : Ws) (i : Nat) (a : Addr) (o : HO) : Ws := ⟨w.st.set i none, w.al, upd w.F a o, w.H⟩
theorem live_none {st : Sto} {i j : Nat} (h : Live (st.set i none) j) : Live st j ∧ i ≠ j := by
  obtain ⟨d, e⟩ := h
  by_cases z : i = j
  · subst z
    by_cases q : i < st.length
    · rw [List.getElem?_set_self q] at e; cases e
    · rw [List.getElem?_eq_none (by rw [List.length_set]; omega)] at e; cases e
  · rw [List.getElem?_set_ne z] at e; exact ⟨⟨d, e⟩, z⟩
theorem step_frz {i : Nat} {a : Addr} {u : HO} (o : Ok K w) (l : Live w.st i) (ea : w.al[i]? = some a) : Step w (w.frz i a u) := by
  have ow : Own w a := ⟨i, l, ea⟩
  obtain ⟨hH, hF⟩ := o.own_H ow
  refine ⟨Pre.refl _, Le.of fun b x e => ?_, fun b x e _ => e, fun b e _ n => ?_, fun b e => e, fun b ⟨j, lj, e⟩ => .inl ⟨j, (live_none lj).1, e⟩⟩
  · show upd w.F a u b = some x
    rw [upd_ne (ne_of_none e hF)]; exact e
  · show upd w.F a u b = w.F b
    exact upd_ne fun z => n (by rw [z]; exact ow)
theorem ok_frz {i : Nat} {a : Addr} {u : HO} (o : Ok K w) (l : Live w.st i) (ea : w.al[i]? = some a) (hu : w.H a = some u) : Ok K (w.frz i a u) := by
  have ow : Own w a := ⟨i, l, ea⟩
  obtain ⟨hH, hF⟩ := o.own_H ow
  have s := step_frz (u := u) o l ea
  refine ⟨?_, fun b x e => ?_, fun j d h => ?_, fun j k b lj lk ej ek => o.inj j k b (live_none lj).1 (live_none lk).1 ej ek⟩
  · show w.al.length = (w.st.set i none).length
    rw [List.length_set]; exact o.len
  · have e' : upd w.F a u b = some x := e
    by_cases z : b = a
    · subst z; rw [upd_same] at e'; rw [← e']; exact hu
    · rw [upd_ne z] at e'; exact o.sub _ _ e'
  · obtain ⟨lj, z⟩ := live_none ⟨d, h⟩
    have h' : (w.st.set i none)[j]? = some (some d) := h
    rw [List.getElem?_set_ne z] at h'
    obtain ⟨b, e, f, cb⟩ := o.own j d h'
    have nb : b ≠ a := fun q => z (o.inj i j a l ⟨d, h'⟩ ea (by rw [← q]; exact e))
    exact ⟨b, e, (show upd w.F a u b = none by rw [upd_ne nb]; exact f), cb.mono s.le s.pre rfl⟩
end

theorem CellAt.notTup {F H : Hp} {α : List Addr} {a : Addr} {c : Cell} {K : PySem.W.Frag} (h : CellAt K F α H a c) : ∀ xs : List V, H a ≠ Option.some (HO.tup xs) := fun xs e => by
  cases h with
  | lst h _ => rw [h] at e; cases e
  | dct h _ _ => rw [h] at e; cases e
  | dcT h _ _ => rw [h] at e; cases e
  | ins h _ _ => rw [h] at e; cases e
/-- a tuple that stands in the heap may be read -/
def Ws.learn (w : Ws) (p : Addr) (xs : List V) : Ws := ⟨w.st, w.al, upd w.F p (.tup xs), w.H⟩
theorem learn_sub {K : PySem.W.Frag} {w : Ws} (o : Ok K w) {p : Addr} {xs : List V} (hp : w.H p = some (.tup xs)) : ∀ a u, w.F a = some u → upd w.F p (.tup xs) a = some u := fun a u e => by
  by_cases z : a = p
  · subst z
    rw [upd_same]
    have := o.sub _ _ e
    rw [hp] at this
    exact this
  · rw [upd_ne z]; exact e
theorem ok_learn {K : PySem.W.Frag} {w : Ws} (o : Ok K w) {p : Addr} {xs : List V} (hp : w.H p = some (.tup xs)) : Ok K (w.learn p xs) := by
  refine ⟨o.len, fun a x e => ?_, fun i c h => ?_, o.inj⟩
  · have e' : upd w.F p (.tup xs) a = some x := e
    by_cases z : a = p
    · subst z; rw [upd_same] at e'; rw [← e']; exact hp
    · rw [upd_ne z] at e'; exact o.sub _ _ e'
  · obtain ⟨a, e, f, ca⟩ := o.own i c h
    have na : a ≠ p := fun z => ca.notTup xs (by rw [z]; exact hp)
    exact ⟨a, e, (show upd w.F p _ a = none by rw [upd_ne na]; exact f), ca.mono (Le.of (learn_sub o hp)) (Pre.refl _) rfl⟩
theorem step_learn {K : PySem.W.Frag} {w : Ws} (o : Ok K w) {p : Addr} {xs : List V} (hp : w.H p = some (.tup xs)) : Step w (w.learn p xs) := by
  refine ⟨Pre.refl _, Le.of (learn_sub o hp), fun _ _ h _ => h, fun b e t _ => ?_, fun _ h => h, fun _ h => .inl h⟩
  show upd w.F p (.tup xs) b = w.F b
  exact upd_ne fun z => t xs (by rw [z]; exact hp)
/-! ### what a datum tells of its value -/
section
variable {K : PySem.W.Frag} {F : Hp} {α : List Addr} {v : V}
theorem Rep.int_inv {i : Int} (h : Rep K F α v (.int i)) : v = .int i := by cases h; rfl
theorem Rep.bl_inv {b : Bool} (h : Rep K F α v (.bl b)) : v = .bl b := by cases h; rfl
theorem Rep.str_inv {s : Str} (h : Rep K F α v (.str s)) : v = .str s := by cases h; rfl
theorem Rep.non_inv (h : Rep K F α v .non) : v = .non := by cases h; rfl
theorem Rep.tup_inv {ds : List D} (h : Rep K F α v (.tup ds)) : ∃ a xs, v = .ref a ∧ F a = some (.tup xs) ∧ Reps K F α xs ds := by cases h with | tup h r => exact ⟨_, _, rfl, h, r⟩
theorem Rep.lst_inv {ds : List D} (h : Rep K F α v (.lst ds)) : ∃ a xs, v = .ref a ∧ F a = some (.lst xs) ∧ Reps K F α xs ds := by cases h with | lst h r => exact ⟨_, _, rfl, h, r⟩
theorem Rep.scr_inv {ns : List Int} (h : Rep K F α v (.scr ns)) : ∃ a, v = .ref a ∧ SqL K F a (ns.map V.int) := by cases h with | scr h => exact ⟨_, rfl, h⟩
theorem Rep.ptr_inv {i : Nat} (h : Rep K F α v (.ptr i)) : ∃ a, v = .ref a ∧ α[i]? = some a := by cases h with | ptr h => exact ⟨_, rfl, h⟩
theorem Rep.dct_inv {ds : List (Key × D)} (h : Rep K F α v (.dct ds)) : ∃ a kvs, v = .ref a ∧ Rd F a (.dK kvs) ∧ kvs.map (·.1) = ds.map (·.1) ∧ Reps K F α (kvs.map (·.2)) (ds.map (·.2)) := by cases h with | dct h e r => exact ⟨_, _, rfl, h, e, r⟩
theorem Rep.dcT_inv {ds : List (List Key × D)} (h : Rep K F α v (.dcT ds)) : ∃ a kvs, v = .ref a ∧ Rd F a (.dT kvs) ∧ kvs.map (·.1) = ds.map (·.1) ∧ Reps K F α (kvs.map (·.2)) (ds.map (·.2)) := by cases h with | dcT h e r => exact ⟨_, _, rfl, h, e, r⟩
theorem reps_ints : ∀ ns : List Int, Reps K F α (ns.map V.int) (ns.map D.int)
  | [] => .nil
  | n :: r => .cons (.int n) (reps_ints r)
end
def cellL (st : Sto) (i : Nat) : Option (List D) := match st[i]? with
  | some (some (.lst ds)) => some ds
  | _ => none
theorem cellL_some {st : Sto} {i : Nat} {ds : List D} (h : cellL st i = some ds) : st[i]? = some (some (.lst ds)) := by
  unfold cellL at h
  split at h
  · rename_i e q
    cases h; exact q
  · cases h
/-- the items of a list: still, or of a cell -/
def lstOf (st : Sto) : D → Option (List D)
  | .lst ds => some ds
  | .scr ns => some (ns.map .int)
  | .ptr i => cellL st i
  | _ => none
theorem cell_at {K : PySem.W.Frag} {w : Ws} (o : Ok K w) {v : V} {i : Nat} {c : Cell} (r : Rep K w.F w.al v (.ptr i)) (h : w.st[i]? = some (some c)) : ∃ a, v = .ref a ∧ w.al[i]? = some a ∧ w.F a = none ∧ CellAt K w.F w.al w.H a c := by
  obtain ⟨a, e, ha⟩ := r.ptr_inv
  obtain ⟨b, hb, f, ca⟩ := o.own i c h
  rw [ha] at hb; cases hb
  exact ⟨a, e, ha, f, ca⟩
theorem sub_sqL {K : PySem.W.Frag} {w : Ws} (o : Ok K w) {a : Addr} {xs : List V} (h : SqL K w.F a xs) : SqL K w.H a xs := h.imp (rd_of o.sub) id
theorem lstOf_rep {K : PySem.W.Frag} {w : Ws} (o : Ok K w) {v : V} {d : D} {ds : List D} (r : Rep K w.F w.al v d) (h : lstOf w.st d = some ds) : ∃ a xs, v = .ref a ∧ SqL K w.H a xs ∧ Reps K w.F w.al xs ds := by
  cases d with
  | lst es =>
    obtain ⟨a, xs, e, f, rs⟩ := r.lst_inv
    cases h
    exact ⟨a, xs, e, SqL.of (o.sub _ _ f), rs⟩
  | scr ns =>
    obtain ⟨a, e, s⟩ := r.scr_inv
    cases h
    exact ⟨a, _, e, sub_sqL o s, reps_ints ns⟩
  | ptr i =>
    obtain ⟨a, e, _, _, ca⟩ := cell_at o r (cellL_some h)
    cases ca with
    | lst hx rs => exact ⟨a, _, e, SqL.of hx, rs⟩
  | _ => cases h
/-- .. one that stands in the heap by itself -/
def lstOn (st : Sto) : D → Option (List D)
  | .lst ds => some ds
  | .ptr i => cellL st i
  | _ => none
theorem lstOn_rep {K : PySem.W.Frag} {w : Ws} (o : Ok K w) {v : V} {d : D} {ds : List D} (r : Rep K w.F w.al v d) (h : lstOn w.st d = some ds) : ∃ a xs, v = .ref a ∧ w.H a = some (.lst xs) ∧ Reps K w.F w.al xs ds := by
  cases d with
  | lst es =>
    obtain ⟨a, xs, e, f, rs⟩ := r.lst_inv
    cases h
    exact ⟨a, xs, e, o.sub _ _ f, rs⟩
  | ptr i =>
    obtain ⟨a, e, _, _, ca⟩ := cell_at o r (cellL_some h)
    cases ca with
    | lst hx rs => exact ⟨a, _, e, hx, rs⟩
  | _ => cases h
end M

namespace M
open PySem L2
/-! ### judgements -/
structure ME (X : Cx) (E : XK) (e : Expr) (f : FE) : Prop where
  ex : ∃ t, PE X e t ∧ RefE X.K E t f
structure MT (X : Cx) (E : XK) (e : Expr) (f : FT) : Prop where
  ex : ∃ t, PT X e t ∧ RefT X.K E t f
structure MW (X : Cx) (E : XK) (e : Expr) (f : FT) : Prop where
  ex : ∃ t, PW X e t ∧ RefT X.K E t f
structure MA (X : Cx) (E : XK) (es : List Expr) (f : FA) : Prop where
  ex : ∃ t, PA X es t ∧ RefA X.K E t f
def lift {τ : Type} (o : Option τ) (st : Sto) : MM τ := match o with
  | some x => ret x st
  | none => none
theorem lift_some {τ : Type} (x : τ) (st : Sto) : lift (some x) st = ret x st := rfl
theorem lift_none {τ : Type} (st : Sto) : lift (none : Option τ) st = none := rfl
def gv (sl : Sl) (i : Nat) : Option D := match sl[i]? with
  | some (some d) => some d
  | _ => none
theorem gv_some {sl : Sl} {i : Nat} {d : D} (h : gv sl i = some d) : sl[i]? = some (some d) := by
  unfold gv at h
  split at h
  · rename_i e q; cases h; exact q
  · cases h
def mVar (i : Nat) : FE := fun sl st => lift (gv sl i) st
def mC (d : D) : FE := fun _ st => ret d st
section
variable {X : Cx} {E : XK} {K : PySem.W.Frag} {a b c e : Expr} {fa fb fc : FE} {ta tb tc : TE} {pos : Pos}
theorem post_lift {τ υ : Type} {rp : Ws → υ → τ → Prop} {w : Ws} {o : Option τ} {Q : υ → Hp → Prop} (h : Post K E rp w (lift o w.st) Q) : ∃ x, o = some x ∧ Post K E rp w (ret x w.st) Q := by
  cases o with
  | none => exact h.elim
  | some x => exact ⟨x, rfl, h⟩
theorem ref_var (i : Nat) : RefE K E (tVar i) (mVar i) := fun sl σ w Q o s h => by
  obtain ⟨d, e, h⟩ := post_lift h
  obtain ⟨v, h1, h2⟩ := s.get i d (gv_some e)
  exact ⟨v, h1, post_ret o h2 h⟩
theorem me_var (i : Nat) {x : Str} (hN : X.N[i]? = some x := by rfl) (hv : Vis X.env.scope x := by first | exact Or.inl rfl | exact Or.inr (Or.inl rfl) | exact Or.inr (Or.inr rfl)) (hd : (x == ("__debug__" : Str)) = false := by decide)
    (hcd : (x == ("__classdict__" : Str)) = false := by decide) : ME X E (.Name x pos) (mVar i) := ⟨tVar i, pe_var hN hv hd hcd, ref_var i⟩
theorem ref_c {v : V} {d : D} (h : ∀ F α, Rep K F α v d) : RefE K E (tC v) (mC d) := fun sl σ w Q o s q => post_ret o (h _ _) q
theorem me_int {i : Int} {j} : ME X E (.Constant (.int i) j pos) (mC (.int i)) := ⟨_, pe_int, ref_c fun _ _ => .int i⟩
theorem me_bl {b : Bool} {j} : ME X E (.Constant (.bool b) j pos) (mC (.bl b)) := ⟨_, pe_bl, ref_c fun _ _ => .bl b⟩
theorem me_non {j} : ME X E (.Constant .none j pos) (mC .non) := ⟨_, pe_non, ref_c fun _ _ => .non⟩
theorem me_str {x : Str} {j} : ME X E (.Constant (.str x) j pos) (mC (.str x)) := ⟨_, pe_str, ref_c fun _ _ => .str x⟩
theorem me_globI {x : Str} {i : Int} {u : Value} (hg : Gl X x) (hm : X.mg x = some u) (r : RelV (.int i) u) (hd : (x == ("__debug__" : Str)) = false := by decide) : ME X E (.Name x pos) (mC (.int i)) := ⟨_, pe_glob hg hm r hd, ref_c fun _ _ => .int i⟩
theorem me_globS {x : Str} {i : Str} {u : Value} (hg : Gl X x) (hm : X.mg x = some u) (r : RelV (.str i) u) (hd : (x == ("__debug__" : Str)) = false := by decide) : ME X E (.Name x pos) (mC (.str i)) := ⟨_, pe_glob hg hm r hd, ref_c fun _ _ => .str i⟩

/-! ### two operands -/
def mBin (g : Sto → D → D → MM D) (fa fb : FE) : FE := fun sl st => bnd (fa sl st) fun x st => bnd (fb sl st) fun y st => g st x y
def mUn (g : Sto → D → MM D) (fa : FE) : FE := fun sl st => bnd (fa sl st) fun x st => g st x
def Rf2 (K : PySem.W.Frag) (E : XK) (r : R2) (g : Sto → D → D → MM D) : Prop := ∀ x y dx dy w (Q : VK), Ok K w → Rep K w.F w.al x dx → Rep K w.F w.al y dy → Post K E (rD K) w (g w.st dx dy) Q → r x y w.H Q
def Rf1 (K : PySem.W.Frag) (E : XK) (r : V → Hp → VK → Prop) (g : Sto → D → MM D) : Prop := ∀ x dx w (Q : VK), Ok K w → Rep K w.F w.al x dx → Post K E (rD K) w (g w.st dx) Q → r x w.H Q
theorem ref_bin {r : R2} {g : Sto → D → D → MM D} (hr : Rf2 K E r g) (ha : RefE K E ta fa) (hb : RefE K E tb fb) : RefE K E (tOp r ta tb) (mBin g fa fb) := fun sl σ w Q o s h => by
  refine ha sl σ w _ o s (post_bnd h fun x dx w1 o1 s1 rx h1 => ?_)
  refine hb sl σ w1 _ o1 (s.step s1) (post_bnd h1 fun y dy w2 o2 s2 ry h2 => ?_)
  exact hr x y dx dy w2 Q o2 (rx.mono s2.le s2.pre) ry h2
theorem ref_un {r : V → Hp → VK → Prop} {g : Sto → D → MM D} (hr : Rf1 K E r g) (ha : RefE K E ta fa) : RefE K E (tUn r ta) (mUn g fa) := fun sl σ w Q o s h => by
  refine ha sl σ w _ o s (post_bnd h fun x dx w1 o1 s1 rx h1 => ?_)
  exact hr x dx w1 Q o1 rx h1
theorem me_bin {op : Operator} {r : R2} {g : Sto → D → D → MM D} (ho : OpR X (binaryOp op) r) (hr : Rf2 X.K E r g) (ha : ME X E a fa) (hb : ME X E b fb) : ME X E (.BinOp a op b pos) (mBin g fa fb) := by
  obtain ⟨ta, p, q⟩ := ha.ex
  obtain ⟨tb, p', q'⟩ := hb.ex
  exact ⟨_, pe_op ho p p', ref_bin hr q q'⟩
theorem me_un {op : UnaryOp} {r : V → Hp → VK → Prop} {g : Sto → D → MM D} (ho : UnR X (unaryOp op) r) (hr : Rf1 X.K E r g) (ha : ME X E a fa) : ME X E (.UnaryOp op a pos) (mUn g fa) := by
  obtain ⟨ta, p, q⟩ := ha.ex
  exact ⟨_, pe_un ho p, ref_un hr q⟩
theorem me_cmp {op : CmpOp} {r : R2} {g : Sto → D → D → MM D} (ho : OpR X (compareOp op) r) (hr : Rf2 X.K E r g) (ha : ME X E a fa) (hb : ME X E b fb) (hm : behindInMarks op b = false) : ME X E (.Compare a [op] [b] pos) (mBin g fa fb) := by
  obtain ⟨ta, p, q⟩ := ha.ex
  obtain ⟨tb, p', q'⟩ := hb.ex
  exact ⟨_, pe_cmpR ho p p' hm, ref_bin hr q q'⟩
/-- a value that is True or False, as a test -/
def mB (f : FE) : FT := fun sl st => bnd (f sl st) fun x st => match x with
  | .bl c => ret c st
  | _ => none
theorem ref_B (ha : RefE K E ta fa) : RefT K E (tB ta) (mB fa) := fun sl σ w Q o s h => by
  refine ha sl σ w _ o s (post_bnd h fun x dx w1 o1 s1 rx h1 => ?_)
  cases dx with
  | bl c => exact ⟨c, rx.bl_inv, post_ret o1 rfl h1⟩
  | _ => exact h1.elim
theorem ref_test (ha : RefE K E ta fa) : RefT K E (tTest ta) (mB fa) := fun sl σ w Q o s h => by
  refine ha sl σ w _ o s (post_bnd h fun x dx w1 o1 s1 rx h1 => ?_)
  cases dx with
  | bl c => exact ⟨c, rx.bl_inv, post_ret o1 rfl h1⟩
  | _ => exact h1.elim
theorem mt_val (h : ME X E e fa) (he : ∀ whole, isTrue e X.env whole = (do let v ← whole; standAt e.pos; holding [v] (truthy v)) := by intro _; rfl) : MT X E e (mB fa) := by
  obtain ⟨ta, p, q⟩ := h.ex
  exact ⟨_, pt_val p he, ref_B q⟩
theorem mt_cmp {op : CmpOp} {r : R2} {g : Sto → D → D → MM D} (ho : OpR X (compareOp op) r) (hr : Rf2 X.K E r g) (ha : ME X E a fa) (hb : ME X E b fb) (hm : behindInMarks op b = false) : MT X E (.Compare a [op] [b] pos) (mB (mBin g fa fb)) := by
  obtain ⟨ta, p, q⟩ := ha.ex
  obtain ⟨tb, p', q'⟩ := hb.ex
  exact ⟨_, pt_cmpR ho p p' hm, ref_test (ref_bin hr q q')⟩
/-! two comparisons in a row -/
def mChain (g g' : Sto → D → D → MM D) (fa fb fc : FE) : FE := fun sl st => bnd (fa sl st) fun x st => bnd (fb sl st) fun y st => bnd (g st x y) fun z st => match z with
  | .bl k => cond k (bnd (fc sl st) fun u st => g' st y u) (ret (.bl false) st)
  | _ => none
theorem ref_chain {r r' : R2} {g g' : Sto → D → D → MM D} (hr : Rf2 K E r g) (hr' : Rf2 K E r' g') (ha : RefE K E ta fa) (hb : RefE K E tb fb) (hc : RefE K E tc fc) : RefE K E (tChain r r' ta tb tc) (mChain g g' fa fb fc) := fun sl σ w Q o s h => by
  refine ha sl σ w _ o s (post_bnd h fun x dx w1 o1 s1 rx h1 => ?_)
  refine hb sl σ w1 _ o1 (s.step s1) (post_bnd h1 fun y dy w2 o2 s2 ry h2 => ?_)
  refine hr x y dx dy w2 _ o2 (rx.mono s2.le s2.pre) ry (post_bnd h2 fun z dz w3 o3 s3 rz h3 => ?_)
  cases dz with
  | bl k =>
    refine ⟨k, rz.bl_inv, ?_⟩
    cases k with
    | true =>
      refine (if_pos rfl).mpr ?_
      refine hc sl σ w3 _ o3 (((s.step s1).step s2).step s3) (post_bnd h3 fun u du w4 o4 s4 ru h4 => ?_)
      exact hr' y u dy du w4 _ o4 ((ry.mono s3.le s3.pre).mono s4.le s4.pre) ru h4
    | false =>
      refine (if_neg Bool.false_ne_true).mpr ?_
      exact post_ret o3 (.bl false) h3
  | _ => exact h3.elim
theorem me_chain {op op' : CmpOp} {r r' : R2} {g g' : Sto → D → D → MM D} (ho : OpR X (compareOp op) r) (ho' : OpR X (compareOp op') r') (hr : Rf2 X.K E r g) (hr' : Rf2 X.K E r' g') (ha : ME X E a fa) (hb : ME X E b fb) (hc : ME X E c fc)
    (hm : lastMarks [op, op'] [b, c] = false := by with_unfolding_all rfl) : ME X E (.Compare a [op, op'] [b, c] pos) (mChain g g' fa fb fc) := by
  obtain ⟨ta, p, q⟩ := ha.ex
  obtain ⟨tb, p', q'⟩ := hb.ex
  obtain ⟨tc, p2, q2⟩ := hc.ex
  exact ⟨_, pe_chain ho ho' p p' p2 hm, ref_chain hr hr' q q' q2⟩
theorem mt_chain {op op' : CmpOp} {r r' : R2} {g g' : Sto → D → D → MM D} (ho : OpR X (compareOp op) r) (ho' : OpR X (compareOp op') r') (hr : Rf2 X.K E r g) (hr' : Rf2 X.K E r' g') (ha : ME X E a fa) (hb : ME X E b fb) (hc : ME X E c fc)
    (hm : lastMarks [op, op'] [b, c] = false := by with_unfolding_all rfl) : MT X E (.Compare a [op, op'] [b, c] pos) (mB (mChain g g' fa fb fc)) := by
  obtain ⟨ta, p, q⟩ := ha.ex
  obtain ⟨tb, p', q'⟩ := hb.ex
  obtain ⟨tc, p2, q2⟩ := hc.ex
  exact ⟨_, pt_chain ho ho' p p' p2 hm, ref_test (ref_chain hr hr' q q' q2)⟩
end
end M

namespace M
open PySem L2
section
variable {X : Cx} {E : XK} {K : PySem.W.Frag} {a b c e o : Expr} {es rest : List Expr} {fa fb fc : FE} {ga gb gc : FT} {fs : FA} {ta tb tc : TE} {t u : TT} {ts : TA} {pos : Pos}
/-! ### tests -/
def mAnd (f g : FT) : FT := fun sl st => bnd (f sl st) fun c st => cond c (g sl st) (ret false st)
def mOr (f g : FT) : FT := fun sl st => bnd (f sl st) fun c st => cond c (ret true st) (g sl st)
def mNot (f : FT) : FT := fun sl st => bnd (f sl st) fun c st => ret (!c) st
theorem ref_and (h1 : RefT K E t ga) (h2 : RefT K E u gb) : RefT K E (tAnd t u) (mAnd ga gb) := fun sl σ w Q o s h => by
  refine h1 sl σ w _ o s (post_bnd h fun v x w1 o1 s1 r hp => ?_)
  have r : v = x := r
  subst r
  cases v with
  | true => exact (if_pos rfl).mpr (h2 sl σ w1 _ o1 (s.step s1) hp)
  | false => exact (if_neg Bool.false_ne_true).mpr (post_ret o1 rfl hp)
theorem ref_or (h1 : RefT K E t ga) (h2 : RefT K E u gb) : RefT K E (tOr t u) (mOr ga gb) := fun sl σ w Q o s h => by
  refine h1 sl σ w _ o s (post_bnd h fun v x w1 o1 s1 r hp => ?_)
  have r : v = x := r
  subst r
  cases v with
  | true => exact (if_pos rfl).mpr (post_ret o1 rfl hp)
  | false => exact (if_neg Bool.false_ne_true).mpr (h2 sl σ w1 _ o1 (s.step s1) hp)
theorem ref_not (h1 : RefT K E t ga) : RefT K E (tNot t) (mNot ga) := fun sl σ w Q o s h => by
  refine h1 sl σ w _ o s (post_bnd h fun v x w1 o1 s1 r hp => ?_)
  have r : v = x := r
  subst r
  exact post_ret o1 rfl hp
theorem mw_and1 (ha : MT X E a ga) : MW X E (.BoolOp .And [a] pos) ga := by
  obtain ⟨t, p, q⟩ := ha.ex
  exact ⟨_, pw_and1 p, q⟩
theorem mw_or1 (ha : MT X E a ga) : MW X E (.BoolOp .Or [a] pos) ga := by
  obtain ⟨t, p, q⟩ := ha.ex
  exact ⟨_, pw_or1 p, q⟩
theorem mw_and (ha : MT X E a ga) (hb : MW X E (.BoolOp .And (b :: rest) pos) gb) : MW X E (.BoolOp .And (a :: b :: rest) pos) (mAnd ga gb) := by
  obtain ⟨t, p, q⟩ := ha.ex
  obtain ⟨u, p', q'⟩ := hb.ex
  exact ⟨_, pw_and p p', ref_and q q'⟩
theorem mw_or (ha : MT X E a ga) (hb : MW X E (.BoolOp .Or (b :: rest) pos) gb) : MW X E (.BoolOp .Or (a :: b :: rest) pos) (mOr ga gb) := by
  obtain ⟨t, p, q⟩ := ha.ex
  obtain ⟨u, p', q'⟩ := hb.ex
  exact ⟨_, pw_or p p', ref_or q q'⟩
theorem MW.mt (h : MW X E e ga) : MT X E e ga := let ⟨t, p, q⟩ := h.ex; ⟨t, p.pt, q⟩
theorem mt_not (ha : MT X E a ga) : MT X E (.UnaryOp .Not a pos) (mNot ga) := by
  obtain ⟨t, p, q⟩ := ha.ex
  exact ⟨_, pt_not p, ref_not q⟩
/-! as values -/
def mAndV (f g : FE) : FE := fun sl st => bnd (f sl st) fun x st => match x with
  | .bl k => cond k (g sl st) (ret (.bl false) st)
  | _ => none
def mOrV (f g : FE) : FE := fun sl st => bnd (f sl st) fun x st => match x with
  | .bl k => cond k (ret (.bl true) st) (g sl st)
  | _ => none
def mNotV (f : FE) : FE := fun sl st => bnd (f sl st) fun x st => match x with
  | .bl c => ret (.bl (!c)) st
  | _ => none
theorem ref_andV (h1 : RefE K E ta fa) (h2 : RefE K E tb fb) : RefE K E (tAndV ta tb) (mAndV fa fb) := fun sl σ w Q o s h => by
  refine h1 sl σ w _ o s (post_bnd h fun v x w1 o1 s1 r hp => ?_)
  cases x with
  | bl k =>
    refine ⟨k, r.bl_inv, ?_⟩
    cases k with
    | true => exact (if_pos rfl).mpr (h2 sl σ w1 _ o1 (s.step s1) hp)
    | false => exact (if_neg Bool.false_ne_true).mpr (post_ret o1 (.bl false) hp)
  | _ => exact hp.elim
theorem ref_orV (h1 : RefE K E ta fa) (h2 : RefE K E tb fb) : RefE K E (tOrV ta tb) (mOrV fa fb) := fun sl σ w Q o s h => by
  refine h1 sl σ w _ o s (post_bnd h fun v x w1 o1 s1 r hp => ?_)
  cases x with
  | bl k =>
    refine ⟨k, r.bl_inv, ?_⟩
    cases k with
    | true => exact (if_pos rfl).mpr (post_ret o1 (.bl true) hp)
    | false => exact (if_neg Bool.false_ne_true).mpr (h2 sl σ w1 _ o1 (s.step s1) hp)
  | _ => exact hp.elim
theorem ref_notV (h1 : RefE K E ta fa) : RefE K E (tNotV ta) (mNotV fa) := fun sl σ w Q o s h => by
  refine h1 sl σ w _ o s (post_bnd h fun v x w1 o1 s1 r hp => ?_)
  cases x with
  | bl k => exact ⟨k, r.bl_inv, post_ret o1 (.bl (!k)) hp⟩
  | _ => exact hp.elim
theorem me_one {op} (ha : ME X E a fa) : ME X E (.BoolOp op [a] pos) fa := by
  obtain ⟨t, p, q⟩ := ha.ex
  exact ⟨_, pe_one p, q⟩
theorem me_and (ha : ME X E a fa) (hb : ME X E (.BoolOp .And (b :: rest) pos) fb) : ME X E (.BoolOp .And (a :: b :: rest) pos) (mAndV fa fb) := by
  obtain ⟨t, p, q⟩ := ha.ex
  obtain ⟨u, p', q'⟩ := hb.ex
  exact ⟨_, pe_and p p', ref_andV q q'⟩
theorem me_or (ha : ME X E a fa) (hb : ME X E (.BoolOp .Or (b :: rest) pos) fb) : ME X E (.BoolOp .Or (a :: b :: rest) pos) (mOrV fa fb) := by
  obtain ⟨t, p, q⟩ := ha.ex
  obtain ⟨u, p', q'⟩ := hb.ex
  exact ⟨_, pe_or p p', ref_orV q q'⟩
theorem me_not (ha : ME X E a fa) : ME X E (.UnaryOp .Not a pos) (mNotV fa) := by
  obtain ⟨t, p, q⟩ := ha.ex
  exact ⟨_, pe_not p, ref_notV q⟩
def mIfE (g : FT) (f1 f2 : FE) : FE := fun sl st => bnd (g sl st) fun c st => cond c (f1 sl st) (f2 sl st)
theorem ref_ifE (h : RefT K E t ga) (h1 : RefE K E ta fa) (h2 : RefE K E tb fb) : RefE K E (tIf t ta tb) (mIfE ga fa fb) := fun sl σ w Q o s hq => by
  refine h sl σ w _ o s (post_bnd hq fun v x w1 o1 s1 r hp => ?_)
  have r : v = x := r
  subst r
  cases v with
  | true => exact (if_pos rfl).mpr (h1 sl σ w1 _ o1 (s.step s1) hp)
  | false => exact (if_neg Bool.false_ne_true).mpr (h2 sl σ w1 _ o1 (s.step s1) hp)
theorem me_if (hc : MT X E c ga) (ha : ME X E a fa) (hb : ME X E b fb) : ME X E (.IfExp c a b pos) (mIfE ga fa fb) := by
  obtain ⟨t, p, q⟩ := hc.ex
  obtain ⟨t1, p1, q1⟩ := ha.ex
  obtain ⟨t2, p2, q2⟩ := hb.ex
  exact ⟨_, pe_ifExp p p1 p2, ref_ifE q q1 q2⟩
/-! truth of any value -/
def truD (st : Sto) : D → Option Bool
  | .non => some false
  | .bl b => some b
  | .int i => some (i != 0)
  | .str y => if y.length ≤ sizeLine then some ((y.length : Int) != 0) else none
  | .lst ds => some (!ds.isEmpty)
  | .scr ds => some (!ds.isEmpty)
  | .tup ds => some (!ds.isEmpty)
  | .dct ds => none
  | .dcT ds => none
  | .ptr i => match cellL st i with
    | some ds => some (!ds.isEmpty)
    | none => none
def mTru (f : FE) : FT := fun sl st => bnd (f sl st) fun x st => lift (truD st x) st
theorem Reps.empty {F : Hp} {α : List Addr} {xs : List V} {ds : List D} (r : Reps K F α xs ds) : xs.isEmpty = ds.isEmpty := by
  cases r <;> rfl
theorem truD_ok {w : Ws} (ok : Ok K w) {v : V} {d : D} {k : Bool} (r : Rep K w.F w.al v d) (h : truD w.st d = some k) : TruV K v w.H k := by
  have viaL : ∀ ds, lstOf w.st d = some ds → k = !ds.isEmpty → TruV K v w.H k := fun ds e ek => by
    obtain ⟨p, xs, rfl, s, rs⟩ := lstOf_rep ok r e
    exact .inl ⟨xs, s, by rw [rs.empty]; exact ek⟩
  cases d with
  | non => cases r; cases h; exact rfl
  | bl b => cases r; cases h; exact rfl
  | int i => cases r; cases h; exact rfl
  | str y =>
    cases r
    have h' : (if y.length ≤ sizeLine then some ((y.length : Int) != 0) else none) = some k := h
    by_cases q : y.length ≤ sizeLine
    · rw [if_pos q] at h'; cases h'; exact ⟨q, rfl⟩
    · rw [if_neg q] at h'; cases h'
  | lst ds => cases h; exact viaL ds rfl rfl
  | scr ns => cases h; exact viaL _ rfl (by cases ns <;> rfl)
  | tup ds =>
    cases h
    obtain ⟨p, xs, rfl, f, rs⟩ := r.tup_inv
    exact .inr (.inl ⟨xs, SqT.of (ok.sub _ _ f), by rw [rs.empty]⟩)
  | dct ds => cases h
  | dcT ds => cases h
  | ptr i =>
    have h' : (match cellL w.st i with | some ds => some (!ds.isEmpty) | none => none) = some k := h
    cases q : cellL w.st i with
    | none => rw [q] at h'; cases h'
    | some ds => rw [q] at h'; cases h'; exact viaL ds q rfl
theorem mt_truth (h : ME X E a fa) (he : ∀ whole, isTrue a X.env whole = (do let v ← whole; standAt a.pos; holding [v] (truthy v)) := by intro _; rfl) : MT X E a (mTru fa) := by
  obtain ⟨t, p, q⟩ := h.ex
  refine ⟨_, pt_truth p he, fun sl σ w Q o s hq => ?_⟩
  refine q sl σ w _ o s (post_bnd hq fun v x w1 o1 s1 r hp => ?_)
  obtain ⟨k, e, hp⟩ := post_lift hp
  exact ⟨k, truD_ok o1 r e, post_ret o1 rfl hp⟩

/-! ### arguments, displays -/
def mNil : FA := fun _ st => ret [] st
def mCons (f : FE) (g : FA) : FA := fun sl st => bnd (f sl st) fun x st => bnd (g sl st) fun xs st => ret (x :: xs) st
theorem ma_nil : MA X E [] mNil := ⟨_, pa_nil, fun sl σ w Q o s h => post_ret o .nil h⟩
theorem ma_cons (ha : ME X E a fa) (hr : MA X E es fs) (hs : starEach (a :: es) X.env = (false, eval a X.env) :: starEach es X.env := by rfl) : MA X E (a :: es) (mCons fa fs) := by
  obtain ⟨t, p, q⟩ := ha.ex
  obtain ⟨t', p', q'⟩ := hr.ex
  refine ⟨_, pa_cons p p' hs, fun sl σ w Q o s h => ?_⟩
  refine q sl σ w _ o s (post_bnd h fun v x w1 o1 s1 r hp => ?_)
  refine q' sl σ w1 _ o1 (s.step s1) (post_bnd hp fun vs xs w2 o2 s2 rs hp2 => ?_)
  exact post_ret o2 (.cons (r.mono s2.le s2.pre) rs) hp2
/-- a new list: a cell (true), or still -/
def mkL (c : Bool) (ds : List D) (st : Sto) : MM D := match c with
  | true => ret (.ptr st.length) (st ++ [some (.lst ds)])
  | false => ret (.lst ds) st
theorem post_mkL {c : Bool} {ds : List D} {w : Ws} {Q : VK} (o : Ok K w) (h : Post K E (rD K) w (mkL c ds w.st) Q) {p : Addr} {xs : List V} (hp : w.H p = none) (r : Reps K w.F w.al xs ds) : Q (.ref p) (upd w.H p (.lst xs)) := by
  cases c with
  | true =>
    have pr := Pre.app w.al [p]
    refine h (.ref p) (w.newC p (.lst xs) (.lst ds)) rfl (ok_newC o hp (.lst upd_same (r.mono (Le.refl _) pr))) (step_newC o hp _ _) (.ptr ?_)
    show (w.al ++ [p])[w.st.length]? = some p
    rw [List.getElem?_append_right (by rw [o.len]; exact Nat.le_refl _), o.len, Nat.sub_self]; rfl
  | false =>
    have s := step_newV o hp (.lst xs)
    exact h (.ref p) (w.newV p (.lst xs)) rfl (ok_newV o hp _) s (.lst (show upd w.F p _ p = _ from upd_same) (r.mono s.le s.pre))
def mkT (ds : List D) (st : Sto) : MM D := ret (.tup ds) st
theorem post_mkT {ds : List D} {w : Ws} {Q : VK} (o : Ok K w) (h : Post K E (rD K) w (mkT ds w.st) Q) {p : Addr} {xs : List V} (hp : w.H p = none) (r : Reps K w.F w.al xs ds) : Q (.ref p) (upd w.H p (.tup xs)) := by
  have s := step_newV o hp (.tup xs)
  exact h (.ref p) (w.newV p (.tup xs)) rfl (ok_newV o hp _) s (.tup (show upd w.F p _ p = _ from upd_same) (r.mono s.le s.pre))
theorem five : (1000 : Nat) ≤ sizeLine := by decide
def mTup (g : FA) : FE := fun sl st => bnd (g sl st) fun ds st => if ds.length ≤ 1000 then mkT ds st else none
def mLst (c : Bool) (g : FA) : FE := fun sl st => bnd (g sl st) fun ds st => if ds.length ≤ 1000 then mkL c ds st else none
theorem post_ite {τ υ : Type} {rp : Ws → υ → τ → Prop} {w : Ws} {p : Prop} [Decidable p] {m : MM τ} {Q : υ → Hp → Prop} (h : Post K E rp w (if p then m else none) Q) : p ∧ Post K E rp w m Q := by
  by_cases q : p
  · rw [if_pos q] at h; exact ⟨q, h⟩
  · rw [if_neg q] at h; exact h.elim
theorem me_tup {x1} (h : MA X E es fs) : ME X E (.Tuple es x1 pos) (mTup fs) := by
  obtain ⟨t, p, q⟩ := h.ex
  refine ⟨_, pe_tup p, fun sl σ w Q o s h => ?_⟩
  refine q sl σ w _ o s (post_bnd h fun vs xs w1 o1 s1 r hp => ?_)
  obtain ⟨hl, hp⟩ := post_ite hp
  exact ⟨by rw [r.length]; exact Nat.le_trans hl five, fun p np => post_mkT o1 hp np r⟩
theorem me_lst (c : Bool) (h : MA X E es fs) : ME X E (.List es pos) (mLst c fs) := by
  obtain ⟨t, p, q⟩ := h.ex
  refine ⟨_, pe_lst p, fun sl σ w Q o s h => ?_⟩
  refine q sl σ w _ o s (post_bnd h fun vs xs w1 o1 s1 r hp => ?_)
  obtain ⟨hl, hp⟩ := post_ite hp
  exact ⟨by rw [r.length]; exact Nat.le_trans hl five, fun p np => post_mkL o1 hp np r⟩

/-! ### calls of what is built in -/
def mCB (g : Sto → List D → MM D) (f : FA) : FE := fun sl st => bnd (f sl st) fun ds st => g st ds
def RfC (K : PySem.W.Frag) (E : XK) (r : List V → Hp → VK → Prop) (g : Sto → List D → MM D) : Prop := ∀ xs ds w (Q : VK), Ok K w → Reps K w.F w.al xs ds → Post K E (rD K) w (g w.st ds) Q → r xs w.H Q
theorem ref_cb {r : List V → Hp → VK → Prop} {g : Sto → List D → MM D} (hr : RfC K E r g) (hs : RefA K E ts fs) : RefE K E (tCB r ts) (mCB g fs) := fun sl σ w Q o s h => by
  refine hs sl σ w _ o s (post_bnd h fun vs xs w1 o1 s1 r hp => ?_)
  exact hr vs xs w1 Q o1 r hp
theorem me_callB {id : String} {r : List V → Hp → VK → Prop} {g : Sto → List D → MM D} {x : Str} {p : Pos} (hc : CallR X (.builtin id) r) (hr : RfC X.K E r g) (hm : X.mg x = none) (hv : bootBuiltins x = some (.builtin id)) (ha : MA X E (a :: es) fs) (hg : Gl X x := by rfl)
    (hn : x ≠ "__name__" := by decide) (hdb : (x == ("__debug__" : Str)) = false := by decide) (he : starEach (a :: es) X.env = (false, eval a X.env) :: starEach es X.env := by rfl) (hpl : (backTo pos (starEach es X.env)).any (·.1) = false := by rfl) : ME X E (.Call (.Name x p) (a :: es) [] pos) (mCB g fs) := by
  obtain ⟨t, p, q⟩ := ha.ex
  exact ⟨_, pe_callB hc hg hm hv p hn hdb he hpl, ref_cb hr q⟩
theorem me_callTy {T : String} {r : List V → Hp → VK → Prop} {g : Sto → List D → MM D} {x : Str} {p : Pos} (hc : CallR X (.type T) r) (hr : RfC X.K E r g) (hm : X.mg x = none) (hv : bootBuiltins x = some (.type T)) (ha : MA X E (a :: es) fs) (hg : Gl X x := by rfl)
    (hn : x ≠ "__name__" := by decide) (hdb : (x == ("__debug__" : Str)) = false := by decide) (he : starEach (a :: es) X.env = (false, eval a X.env) :: starEach es X.env := by rfl) (hpl : (backTo pos (starEach es X.env)).any (·.1) = false := by rfl) : ME X E (.Call (.Name x p) (a :: es) [] pos) (mCB g fs) := by
  obtain ⟨t, p, q⟩ := ha.ex
  exact ⟨_, pe_callTy hc hg hm hv p hn hdb he hpl, ref_cb hr q⟩
end
end M

namespace M
open PySem L2
section
variable {X : Cx} {E : XK} {K : PySem.W.Frag} {a b c e o : Expr} {es rest : List Expr} {fa fb fc : FE} {fs : FA} {ta tb tc : TE} {pos : Pos}
theorem Rf2.or {r r' : R2} {g g' : Sto → D → D → MM D} {h : Sto → D → D → MM D} (h1 : Rf2 K E r g) (h2 : Rf2 K E r' g') (c : Sto → D → D → Bool) (e : ∀ st x y, h st x y = if c st x y then g st x y else g' st x y) : Rf2 K E (fun x y H Q => r x y H Q ∨ r' x y H Q) h := fun x y dx dy w Q o rx ry hp => by
  rw [e] at hp
  by_cases q : c w.st dx dy = true
  · rw [if_pos q] at hp; exact .inl (h1 x y dx dy w Q o rx ry hp)
  · rw [if_neg q] at hp; exact .inr (h2 x y dx dy w Q o rx ry hp)
/-! ### whole numbers -/
def gI (C : Int → Int → Prop) [∀ i j, Decidable (C i j)] (f : Int → Int → D) : Sto → D → D → MM D := fun st x y => match x, y with
  | .int i, .int j => if C i j then ret (f i j) st else none
  | _, _ => none
def gI0 (f : Int → Int → D) : Sto → D → D → MM D := fun st x y => match x, y with
  | .int i, .int j => ret (f i j) st
  | _, _ => none
theorem rf_I {C : Int → Int → Prop} [∀ i j, Decidable (C i j)] {g : Int → Int → V} {f : Int → Int → D} (h : ∀ i j F α, Rep K F α (g i j) (f i j)) : Rf2 K E (rI C g) (gI C f) := fun x y dx dy w Q o rx ry hp => by
  cases dx with
  | int i =>
    cases dy with
    | int j =>
      obtain ⟨hc, hp⟩ := post_ite (p := C i j) hp
      exact ⟨i, j, rx.int_inv, ry.int_inv, hc, post_ret o (h i j _ _) hp⟩
    | _ => exact hp.elim
  | _ => exact hp.elim
theorem rf_I0 {g : Int → Int → V} {f : Int → Int → D} (h : ∀ i j F α, Rep K F α (g i j) (f i j)) : Rf2 K E (rI0 g) (gI0 f) := fun x y dx dy w Q o rx ry hp => by
  cases dx with
  | int i =>
    cases dy with
    | int j => exact ⟨i, j, rx.int_inv, ry.int_inv, post_ret o (h i j _ _) hp⟩
    | _ => exact hp.elim
  | _ => exact hp.elim
instance {i j : Int} : Decidable (CMul i j) := by unfold CMul; infer_instance
instance {i j : Int} : Decidable (CDiv i j) := by unfold CDiv; infer_instance
instance {i j : Int} : Decidable (CPow i j) := by unfold CPow; infer_instance
abbrev gSub := gI0 fun i j => .int (i - j)
abbrev gMul := gI CMul fun i j => .int (i * j)
abbrev gDiv := gI CDiv fun i j => .int (i / j)
abbrev gMod := gI (fun _ j => 0 < j) fun i j => .int (i % j)
abbrev gPow := gI CPow fun i j => .int (i ^ j.toNat)
theorem me_sub (ha : ME X E a fa) (hb : ME X E b fb) : ME X E (.BinOp a .Sub b pos) (mBin gSub fa fb) := me_bin op_sub (rf_I0 fun _ _ _ _ => .int _) ha hb
theorem me_mul (ha : ME X E a fa) (hb : ME X E b fb) : ME X E (.BinOp a .Mult b pos) (mBin gMul fa fb) := me_bin op_mul (rf_I fun _ _ _ _ => .int _) ha hb
theorem me_div (ha : ME X E a fa) (hb : ME X E b fb) : ME X E (.BinOp a .FloorDiv b pos) (mBin gDiv fa fb) := me_bin op_fdiv (rf_I fun _ _ _ _ => .int _) ha hb
theorem me_mod (ha : ME X E a fa) (hb : ME X E b fb) : ME X E (.BinOp a .Mod b pos) (mBin gMod fa fb) := me_bin op_mod (rf_I fun _ _ _ _ => .int _) ha hb
theorem me_pow (ha : ME X E a fa) (hb : ME X E b fb) : ME X E (.BinOp a .Pow b pos) (mBin gPow fa fb) := me_bin op_pow (rf_I fun _ _ _ _ => .int _) ha hb
def gNeg : Sto → D → MM D := fun st x => match x with
  | .int i => ret (.int (-i)) st
  | _ => none
theorem me_neg (ha : ME X E a fa) : ME X E (.UnaryOp .USub a pos) (mUn gNeg fa) := me_un un_neg (fun x dx w Q o rx hp => by
  cases dx with
  | int i => exact ⟨i, rx.int_inv, post_ret o (.int _) hp⟩
  | _ => exact hp.elim) ha
/-! ### + -/
def gAdd (c : Bool) : Sto → D → D → MM D := fun st x y => match x, y with
  | .int i, .int j => ret (.int (i + j)) st
  | .str i, .str j => if i.length + j.length ≤ sizeLine then ret (.str (i ++ j)) st else none
  | x, y => match lstOn st x, lstOn st y with
    | some ds, some es => if ds.length + es.length ≤ sizeLine then mkL c (ds ++ es) st else none
    | _, _ => none
theorem me_add (c : Bool) (ha : ME X E a fa) (hb : ME X E b fb) : ME X E (.BinOp a .Add b pos) (mBin (gAdd c) fa fb) := me_bin (op_add.or (op_add_str.or op_cat)) (fun x y dx dy w Q o rx ry hp => by
  have viaL : (match lstOn w.st dx, lstOn w.st dy with
    | some ds, some es => if ds.length + es.length ≤ sizeLine then mkL c (ds ++ es) w.st else none
    | _, _ => none) = gAdd c w.st dx dy → rCat x y w.H Q := fun e => by
    rw [← e] at hp
    cases h1 : lstOn w.st dx with
    | none => rw [h1] at hp; exact hp.elim
    | some ds =>
      cases h2 : lstOn w.st dy with
      | none => rw [h1, h2] at hp; exact hp.elim
      | some es =>
        rw [h1, h2] at hp
        obtain ⟨hl, hp⟩ := post_ite hp
        obtain ⟨p, xs, rfl, hx, rs⟩ := lstOn_rep o rx h1
        obtain ⟨q, ys, rfl, hy, rs'⟩ := lstOn_rep o ry h2
        exact ⟨p, q, xs, ys, rfl, rfl, hx, hy, by rw [rs.length, rs'.length]; exact hl, fun l nl => post_mkL o hp nl (rs.append rs')⟩
  cases dx with
  | int i =>
    cases dy with
    | int j => exact .inl ⟨i, j, rx.int_inv, ry.int_inv, post_ret o (.int _) hp⟩
    | _ => exact hp.elim
  | str i =>
    cases dy with
    | str j =>
      obtain ⟨hl, hp⟩ := post_ite hp
      exact .inr (.inl ⟨i, j, rx.str_inv, ry.str_inv, hl, post_ret o (.str _) hp⟩)
    | _ => exact hp.elim
  | lst ds => exact .inr (.inr (viaL rfl))
  | ptr i => exact .inr (.inr (viaL rfl))
  | _ => exact hp.elim) ha hb
/-! ### order -/
def gCmp (p : Int → Int → Bool) (q : List Nat → List Nat → Bool) : Sto → D → D → MM D := fun st x y => match x, y with
  | .int i, .int j => ret (.bl (p i j)) st
  | .str i, .str j => ret (.bl (q i.cps.toList j.cps.toList)) st
  | _, _ => none
theorem rf_cmp {p : Int → Int → Bool} {q : List Nat → List Nat → Bool} : Rf2 K E (fun x y H Q => rI0 (fun i j => .bl (p i j)) x y H Q ∨ (∃ i j, x = .str i ∧ y = .str j ∧ Q (.bl (q i.cps.toList j.cps.toList)) H)) (gCmp p q) := fun x y dx dy w Q o rx ry hp => by
  cases dx with
  | int i =>
    cases dy with
    | int j => exact .inl ⟨i, j, rx.int_inv, ry.int_inv, post_ret o (.bl _) hp⟩
    | _ => exact hp.elim
  | str i =>
    cases dy with
    | str j => exact .inr ⟨i, j, rx.str_inv, ry.str_inv, post_ret o (.bl _) hp⟩
    | _ => exact hp.elim
  | _ => exact hp.elim
abbrev gLt := gCmp (fun i j => decide (i < j)) (fun i j => decide (i < j))
abbrev gLe := gCmp (fun i j => decide (i ≤ j)) (fun i j => !decide (j < i))
abbrev gGt := gCmp (fun i j => decide (j < i)) (fun i j => decide (j < i))
abbrev gGe := gCmp (fun i j => decide (j ≤ i)) (fun i j => !decide (i < j))
theorem opr_lt : OpR X (compareOp .Lt) (fun x y H Q => rI0 (fun i j => .bl (decide (i < j))) x y H Q ∨ (∃ i j, x = .str i ∧ y = .str j ∧ Q (.bl (decide (i.cps.toList < j.cps.toList))) H)) := op_lt.or op_lt_str
theorem opr_le : OpR X (compareOp .LtE) (fun x y H Q => rI0 (fun i j => .bl (decide (i ≤ j))) x y H Q ∨ (∃ i j, x = .str i ∧ y = .str j ∧ Q (.bl (!decide (j.cps.toList < i.cps.toList))) H)) := op_le.or op_le_str
theorem opr_gt : OpR X (compareOp .Gt) (fun x y H Q => rI0 (fun i j => .bl (decide (j < i))) x y H Q ∨ (∃ i j, x = .str i ∧ y = .str j ∧ Q (.bl (decide (j.cps.toList < i.cps.toList))) H)) := op_gt.or op_gt_str
theorem opr_ge : OpR X (compareOp .GtE) (fun x y H Q => rI0 (fun i j => .bl (decide (j ≤ i))) x y H Q ∨ (∃ i j, x = .str i ∧ y = .str j ∧ Q (.bl (!decide (i.cps.toList < j.cps.toList))) H)) := op_ge.or op_ge_str
/-! ### ==, != of plain things -/
def scD : D → Option V
  | .non => some .non
  | .bl b => some (.bl b)
  | .int i => some (.int i)
  | .str s => some (.str s)
  | _ => none
theorem scD_rep {F : Hp} {α : List Addr} {v x : V} {d : D} (r : Rep K F α v d) (h : scD d = some x) : v = x := by
  cases d with
  | non => cases h; exact r.non_inv
  | bl b => cases h; exact r.bl_inv
  | int i => cases h; exact r.int_inv
  | str s => cases h; exact r.str_inv
  | _ => cases h
def gEq : Sto → D → D → MM D := fun st x y => match scD x, scD y with
  | some u, some v => if scal u v = true then ret (.bl (decide (u = v))) st else none
  | _, _ => none
def gNe : Sto → D → D → MM D := fun st x y => match scD x, scD y with
  | some u, some v => if scal u v = true then ret (.bl (!decide (u = v))) st else none
  | _, _ => none
theorem rf_eq : Rf2 K E rEq gEq := fun x y dx dy w Q o rx ry hp => by
  unfold gEq at hp
  cases h1 : scD dx with
  | none => rw [h1] at hp; exact hp.elim
  | some u =>
    cases h2 : scD dy with
    | none => rw [h1, h2] at hp; exact hp.elim
    | some v =>
      rw [h1, h2] at hp
      obtain ⟨hs, hp⟩ := post_ite hp
      rw [scD_rep rx h1, scD_rep ry h2]
      exact ⟨hs, post_ret o (.bl _) hp⟩
theorem rf_ne : Rf2 K E rNe gNe := fun x y dx dy w Q o rx ry hp => by
  unfold gNe at hp
  cases h1 : scD dx with
  | none => rw [h1] at hp; exact hp.elim
  | some u =>
    cases h2 : scD dy with
    | none => rw [h1, h2] at hp; exact hp.elim
    | some v =>
      rw [h1, h2] at hp
      obtain ⟨hs, hp⟩ := post_ite hp
      rw [scD_rep rx h1, scD_rep ry h2]
      exact ⟨hs, post_ret o (.bl _) hp⟩
/-! is None -/
def isNon : D → Bool
  | .non => true
  | _ => false
theorem isNon_rep {F : Hp} {α : List Addr} {v : V} {d : D} (r : Rep K F α v d) : decide (v = .non) = isNon d := by
  cases r <;> rfl
def gIsN : Sto → D → D → MM D := fun st x y => match y with
  | .non => ret (.bl (isNon x)) st
  | _ => none
def gNotN : Sto → D → D → MM D := fun st x y => match y with
  | .non => ret (.bl (!isNon x)) st
  | _ => none
theorem rf_isN : Rf2 K E (fun x y H Q => y = .non ∧ Q (.bl (decide (x = .non))) H) gIsN := fun x y dx dy w Q o rx ry hp => by
  cases dy with
  | non => exact ⟨ry.non_inv, by rw [isNon_rep rx]; exact post_ret o (.bl _) hp⟩
  | _ => exact hp.elim
theorem rf_notN : Rf2 K E (fun x y H Q => y = .non ∧ Q (.bl (!decide (x = .non))) H) gNotN := fun x y dx dy w Q o rx ry hp => by
  cases dy with
  | non => exact ⟨ry.non_inv, by rw [isNon_rep rx]; exact post_ret o (.bl _) hp⟩
  | _ => exact hp.elim
/-! ### items -/
def gIx : Sto → D → D → MM D := fun st x y => match y with
  | .int i => match x with
    | .str z => if z.length ≤ sizeLine then lift ((atI z.cps.toList i).map fun c => .str ⟨#[c]⟩) st else none
    | .tup ds => lift (atI ds i) st
    | x => match lstOf st x with
      | some ds => lift (atI ds i) st
      | none => none
  | _ => none
theorem Reps.atI {F : Hp} {α : List Addr} {xs : List V} {ds : List D} {i : Int} {d : D} (r : Reps K F α xs ds) (h : L2.atI ds i = some d) : ∃ v, L2.atI xs i = some v ∧ Rep K F α v d := by
  unfold L2.atI at h ⊢
  rw [r.length]
  cases q : ixN ds.length i with
  | none => rw [q] at h; cases h
  | some j =>
    rw [q] at h
    exact r.get h
theorem me_ix (ha : ME X E a fa) (hb : ME X E b fb) (hs : PlainIx b := by exact fun _ _ => rfl) : ME X E (.Subscript a b pos) (mBin gIx fa fb) := by
  obtain ⟨ta, p, q⟩ := ha.ex
  obtain ⟨tb, p', q'⟩ := hb.ex
  refine ⟨_, pe_ix ix_seq p p' hs, ref_bin (fun x y dx dy w Q o rx ry hp => ?_) q q'⟩
  cases dy with
  | int i =>
    have viaL : (match lstOf w.st dx with
      | some ds => lift (L2.atI ds i) w.st
      | none => none) = gIx w.st dx (.int i) → rIxL X.K x y w.H Q := fun e => by
      rw [← e] at hp
      cases h1 : lstOf w.st dx with
      | none => rw [h1] at hp; exact hp.elim
      | some ds =>
        rw [h1] at hp
        obtain ⟨d, ed, hp⟩ := post_lift hp
        obtain ⟨p, xs, rfl, hx, rs⟩ := lstOf_rep o rx h1
        obtain ⟨v, ev, rv⟩ := rs.atI ed
        exact ⟨p, xs, i, v, rfl, ry.int_inv, hx, ev, post_ret o rv hp⟩
    cases dx with
    | str z =>
      obtain ⟨hz, hp⟩ := post_ite hp
      obtain ⟨d, ed, hp⟩ := post_lift hp
      cases e : L2.atI z.cps.toList i with
      | none => rw [e] at ed; cases ed
      | some c =>
        rw [e] at ed; cases ed
        exact .inr (.inr ⟨z, i, c, rx.str_inv, ry.int_inv, hz, e, post_ret o (.str _) hp⟩)
    | tup ds =>
      obtain ⟨d, ed, hp⟩ := post_lift hp
      obtain ⟨p, xs, rfl, hx, rs⟩ := rx.tup_inv
      obtain ⟨v, ev, rv⟩ := rs.atI ed
      exact .inr (.inl ⟨p, xs, i, v, rfl, ry.int_inv, SqT.of (o.sub _ _ hx), ev, post_ret o rv hp⟩)
    | lst ds => exact .inl (viaL rfl)
    | scr ds => exact .inl (viaL rfl)
    | ptr j => exact .inl (viaL rfl)
    | _ => exact hp.elim
  | _ => exact hp.elim
/-! ### slices -/
abbrev FO := Sl → Sto → MM (Option Int)
structure MO (X : Cx) (E : XK) (e : Option Expr) (f : FO) : Prop where
  ex : ∃ t, PO X e t ∧ ∀ sl σ w (Q : Option Int → Hp → Prop), Ok X.K w → Slots X.K w sl σ → Post X.K E (fun _ a b => a = b) w (f sl w.st) Q → t σ w.H Q
def mNoPart : FO := fun _ st => ret none st
def mPart (f : FE) : FO := fun sl st => bnd (f sl st) fun x st => match x with
  | .int i => ret (some i) st
  | _ => none
theorem mo_none : MO X E none mNoPart := ⟨_, po_none, fun sl σ w Q o s h => post_ret (rp := fun _ a b => a = b) o rfl h⟩
theorem mo_some (ha : ME X E a fa) : MO X E (some a) (mPart fa) := by
  obtain ⟨t, p, q⟩ := ha.ex
  refine ⟨_, po_some p, fun sl σ w Q o s h => ?_⟩
  refine q sl σ w _ o s (post_bnd h fun v x w1 o1 s1 r hp => ?_)
  cases x with
  | int i => exact ⟨i, r.int_inv, post_ret (rp := fun _ a b => a = b) o1 rfl hp⟩
  | _ => exact hp.elim
def cutD (xs : List D) (lo hi : Option Int) : List D := (xs.drop (HT.sIx xs.length 0 lo)).take (HT.sIx xs.length xs.length hi - HT.sIx xs.length 0 lo)
def gSl (c : Bool) : Sto → D → Option Int → Option Int → MM D := fun st x lo hi => match x with
  | .str z => if z.length ≤ sizeLine then ret (.str (cutS z lo hi)) st else none
  | x => match lstOf st x with
    | some ds => mkL c (cutD ds lo hi) st
    | none => none
def mSl (c : Bool) (f : FE) (l h : FO) : FE := fun sl st => bnd (f sl st) fun x st => bnd (l sl st) fun lo st => bnd (h sl st) fun hi st => gSl c st x lo hi
theorem Reps.cut {F : Hp} {α : List Addr} {xs : List V} {ds : List D} (lo hi : Option Int) (r : Reps K F α xs ds) : Reps K F α (cutV xs lo hi) (cutD ds lo hi) := by
  unfold cutV cutD
  rw [r.length]
  exact (r.drop _).take _
theorem me_sl (c : Bool) {lo hi : Option Expr} {fl fh : FO} {p2 : Pos} (ha : ME X E a fa) (hl : MO X E lo fl) (hh : MO X E hi fh) : ME X E (.Subscript a (.Slice lo hi none p2) pos) (mSl c fa fl fh) := by
  obtain ⟨ta, p, q⟩ := ha.ex
  obtain ⟨tl, p1, q1⟩ := hl.ex
  obtain ⟨th, p2, q2⟩ := hh.ex
  refine ⟨_, pe_slice (sl_str.or sl_list) p p1 p2, fun sl σ w Q o s h => ?_⟩
  refine q sl σ w _ o s (post_bnd h fun x dx w1 o1 s1 rx h1 => ?_)
  refine q1 sl σ w1 _ o1 (s.step s1) (post_bnd h1 fun v lo w2 o2 s2 r1 h2 => ?_)
  have r1 : v = lo := r1
  subst r1
  refine q2 sl σ w2 _ o2 ((s.step s1).step s2) (post_bnd h2 fun u hi w3 o3 s3 r2 hp => ?_)
  have r2 : u = hi := r2
  subst r2
  have rx := (rx.mono s2.le s2.pre).mono s3.le s3.pre
  have viaL : (match lstOf w3.st dx with
      | some ds => mkL c (cutD ds v u) w3.st
      | none => none) = gSl c w3.st dx v u → rSlL X.K x v u w3.H Q := fun e => by
    rw [← e] at hp
    cases h1 : lstOf w3.st dx with
    | none => rw [h1] at hp; exact hp.elim
    | some ds =>
      rw [h1] at hp
      obtain ⟨p, xs, rfl, hx, rs⟩ := lstOf_rep o3 rx h1
      exact ⟨p, xs, rfl, hx, fun l nl => post_mkL o3 hp nl (rs.cut v u)⟩
  cases dx with
  | str z =>
    obtain ⟨hz, hp⟩ := post_ite hp
    exact .inl ⟨z, rx.str_inv, hz, post_ret o3 (.str _) hp⟩
  | lst ds => exact .inr (viaL rfl)
  | scr ds => exact .inr (viaL rfl)
  | ptr j => exact .inr (viaL rfl)
  | _ => exact hp.elim
/-! ### built-in functions -/
def cLen (st : Sto) (ds : List D) : MM D := match ds with
  | [.str z] => if z.length ≤ sizeLine then ret (.int z.length) st else none
  | [.tup xs] => ret (.int xs.length) st
  | [x] => match lstOf st x with
    | some xs => ret (.int xs.length) st
    | none => none
  | _ => none
theorem Reps.one_inv {F : Hp} {α : List Addr} {xs : List V} {d : D} (r : Reps K F α xs [d]) : ∃ x, xs = [x] ∧ Rep K F α x d := by
  cases r with | cons h t => cases t; exact ⟨_, rfl, h⟩
theorem Reps.two_inv {F : Hp} {α : List Addr} {xs : List V} {d e : D} (r : Reps K F α xs [d, e]) : ∃ x y, xs = [x, y] ∧ Rep K F α x d ∧ Rep K F α y e := by
  cases r with | cons h t => cases t with | cons h2 t => cases t; exact ⟨_, _, rfl, h, h2⟩
theorem rf_len {X : Cx} : RfC X.K E (fun xs H Q => ∃ x n, xs = [x] ∧ LenV X.K x H n ∧ Q (.int n) H) cLen := fun xs ds w Q o r hp => by
  cases ds with
  | nil => exact hp.elim
  | cons d t =>
    cases t with
    | cons _ _ => cases d <;> exact hp.elim
    | nil =>
      obtain ⟨x, rfl, rx⟩ := r.one_inv
      have viaL : (match lstOf w.st d with
        | some xs => ret (.int xs.length) w.st
        | none => none) = cLen w.st [d] → ∃ y n, [x] = [y] ∧ LenV X.K y w.H n ∧ Q (.int n) w.H := fun e => by
        rw [← e] at hp
        cases h1 : lstOf w.st d with
        | none => rw [h1] at hp; exact hp.elim
        | some ds =>
          rw [h1] at hp
          obtain ⟨p, xs, rfl, hx, rs⟩ := lstOf_rep o rx h1
          exact ⟨_, ds.length, rfl, .inl ⟨xs, hx, rs.length.symm⟩, post_ret o (.int _) hp⟩
      cases d with
      | str z =>
        obtain ⟨hz, hp⟩ := post_ite hp
        cases rx
        exact ⟨_, z.length, rfl, ⟨hz, rfl⟩, post_ret o (.int _) hp⟩
      | tup xs =>
        obtain ⟨p, ys, rfl, f, rs⟩ := rx.tup_inv
        exact ⟨_, xs.length, rfl, .inr ⟨ys, SqT.of (o.sub _ _ f), rs.length.symm⟩, post_ret o (.int _) hp⟩
      | lst _ => exact viaL rfl
      | scr _ => exact viaL rfl
      | ptr _ => exact viaL rfl
      | _ => exact hp.elim
def cInt (st : Sto) (ds : List D) : MM D := match ds with
  | [.int i] => ret (.int i) st
  | [.bl k] => ret (.int (if k then 1 else 0)) st
  | _ => none
theorem rf_int : RfC K E (fun xs H Q => (∃ i, xs = [.int i] ∧ Q (.int i) H) ∨ ∃ k, xs = [.bl k] ∧ Q (.int (if k then 1 else 0)) H) cInt := fun xs ds w Q o r hp => by
  cases ds with
  | nil => exact hp.elim
  | cons d t =>
    cases t with
    | cons _ _ => cases d <;> exact hp.elim
    | nil =>
      obtain ⟨x, rfl, rx⟩ := r.one_inv
      cases d with
      | int i => exact .inl ⟨i, by rw [rx.int_inv], post_ret o (.int _) hp⟩
      | bl k => exact .inr ⟨k, by rw [rx.bl_inv], post_ret o (.int _) hp⟩
      | _ => exact hp.elim
def c2I (f : Int → Int → Int) (st : Sto) (ds : List D) : MM D := match ds with
  | [.int i, .int j] => ret (.int (f i j)) st
  | _ => none
theorem rf_2I {f : Int → Int → Int} : RfC K E (fun xs H Q => ∃ i j, xs = [.int i, .int j] ∧ Q (.int (f i j)) H) (c2I f) := fun xs ds w Q o r hp => by
  unfold c2I at hp
  split at hp
  · obtain ⟨x, y, rfl, rx, ry⟩ := r.two_inv
    exact ⟨_, _, by rw [rx.int_inv, ry.int_inv], post_ret o (.int _) hp⟩
  · exact hp.elim
abbrev cMax2 := c2I fun i j => if j > i then j else i
abbrev cMin2 := c2I fun i j => if j < i then j else i
def c1I (f : Int → Int) (st : Sto) (ds : List D) : MM D := match ds with
  | [.int i] => ret (.int (f i)) st
  | _ => none
theorem rf_1I {f : Int → Int} : RfC K E (fun xs H Q => ∃ i, xs = [.int i] ∧ Q (.int (f i)) H) (c1I f) := fun xs ds w Q o r hp => by
  unfold c1I at hp
  split at hp
  · obtain ⟨x, rfl, rx⟩ := r.one_inv
    exact ⟨_, by rw [rx.int_inv], post_ret o (.int _) hp⟩
  · exact hp.elim
abbrev cAbs := c1I fun i => if i < 0 then -i else i
def cStrI (st : Sto) (ds : List D) : MM D := match ds with
  | [.int i] => if i.natAbs.log2 < 1920 then ret (.str (toString i)) st else none
  | _ => none
theorem rf_strI : RfC K E (fun xs H Q => ∃ i, xs = [.int i] ∧ i.natAbs.log2 < 1920 ∧ Q (.str (toString i)) H) cStrI := fun xs ds w Q o r hp => by
  unfold cStrI at hp
  split at hp
  · obtain ⟨x, rfl, rx⟩ := r.one_inv
    obtain ⟨hl, hp⟩ := post_ite hp
    exact ⟨_, by rw [rx.int_inv], hl, post_ret o (.str _) hp⟩
  · exact hp.elim
def cOrd (st : Sto) (ds : List D) : MM D := match ds with
  | [.str x] => if x.length = 1 then ret (.int (x.cps.getD 0 0 : Nat)) st else none
  | _ => none
theorem rf_ord : RfC K E (fun xs H Q => ∃ x, xs = [.str x] ∧ x.length = 1 ∧ Q (.int (x.cps.getD 0 0 : Nat)) H) cOrd := fun xs ds w Q o r hp => by
  unfold cOrd at hp
  split at hp
  · obtain ⟨x, rfl, rx⟩ := r.one_inv
    obtain ⟨hl, hp⟩ := post_ite hp
    exact ⟨_, by rw [rx.str_inv], hl, post_ret o (.int _) hp⟩
  · exact hp.elim
def cList (c : Bool) (st : Sto) (ds : List D) : MM D := match ds with
  | [.tup xs] => mkL c xs st
  | [x] => match lstOf st x with
    | some xs => mkL c xs st
    | none => none
  | _ => none
theorem rf_list (c : Bool) : RfC K E (fun xs H Q => ∃ p ys, xs = [.ref p] ∧ (SqL K H p ys ∨ SqT K H p ys) ∧ ∀ l, H l = none → Q (.ref l) (upd H l (.lst ys))) (cList c) := fun xs ds w Q o r hp => by
  cases ds with
  | nil => exact hp.elim
  | cons d t =>
    cases t with
    | cons _ _ => cases d <;> exact hp.elim
    | nil =>
      obtain ⟨x, rfl, rx⟩ := r.one_inv
      have viaL : (match lstOf w.st d with
        | some xs => mkL c xs w.st
        | none => none) = cList c w.st [d] → ∃ p ys, [x] = [.ref p] ∧ (SqL K w.H p ys ∨ SqT K w.H p ys) ∧ ∀ l, w.H l = none → Q (.ref l) (upd w.H l (.lst ys)) := fun e => by
        rw [← e] at hp
        cases h1 : lstOf w.st d with
        | none => rw [h1] at hp; exact hp.elim
        | some ds =>
          rw [h1] at hp
          obtain ⟨p, xs, rfl, hx, rs⟩ := lstOf_rep o rx h1
          exact ⟨p, xs, rfl, .inl hx, fun l nl => post_mkL o hp nl rs⟩
      cases d with
      | tup xs =>
        obtain ⟨p, ys, rfl, f, rs⟩ := rx.tup_inv
        exact ⟨p, ys, rfl, .inr (SqT.of (o.sub _ _ f)), fun l nl => post_mkL o hp nl rs⟩
      | lst _ => exact viaL rfl
      | scr _ => exact viaL rfl
      | ptr _ => exact viaL rfl
      | _ => exact hp.elim
end
end M

namespace M
open PySem L2
inductive Fl where
  | nx (sl : Sl) | rt (d : D) | bk (sl : Sl) | ct (sl : Sl)
abbrev FS := Sl → Sto → MM Fl
def FlOk (K : PySem.W.Frag) (D : Ends) (w : Ws) : Fl → Prop
  | .nx sl => ∀ σ, Slots K w sl σ → D.nx σ w.H
  | .rt d => ∀ v, Rep K w.F w.al v d → D.rt v w.H
  | .bk sl => ∀ σ, Slots K w sl σ → D.bk σ w.H
  | .ct sl => ∀ σ, Slots K w sl σ → D.ct σ w.H
def PostS (K : PySem.W.Frag) (E : XK) (w : Ws) (m : MM Fl) (D : Ends) : Prop := match m with
  | none => False
  | some (.ok f st) => ∀ w', w'.st = st → Ok K w' → Step w w' → FlOk K D w' f
  | some (.exc e st) => ∀ (d : Option Addr) (w' : Ws), w'.st = st → Ok K w' → Step w w' → RepX K w' e d → E (.ref e.C) d w'.H
section
variable {K : PySem.W.Frag} {E : XK} {w w1 : Ws} {D : Ends} {m : MM Fl}
theorem PostS.step (s : Step w w1) (h : PostS K E w m D) : PostS K E w1 m D := by
  match m, h with
  | some (.ok x st), h => exact fun w' e o t => h w' e o (s.trans t)
  | some (.exc e st), h => exact fun d w' q o t r => h d w' q o (s.trans t) r
theorem postS_ret {f : Fl} (o : Ok K w) (h : PostS K E w (ret f w.st) D) : FlOk K D w f := h w rfl o (Step.refl w)
/-- from an expression to the statement around it -/
theorem post_bndS {τ υ : Type} {rp : Ws → υ → τ → Prop} {m : MM τ} {k : τ → Sto → MM Fl} {Q : υ → Hp → Prop}
    (h : PostS K E w (bnd m k) D) (g : ∀ v x w1, Ok K w1 → Step w w1 → rp w1 v x → PostS K E w1 (k x w1.st) D → Q v w1.H) : Post K E rp w m Q := by
  match m, h with
  | some (.ok x st), h => exact fun v w1 e o s r => g v x w1 o s r (PostS.step s (by rw [e]; exact h))
  | some (.exc e st), h => exact h
theorem postS_bnd {k : Fl → Sto → MM Fl} {D' : Ends} (h : PostS K E w (bnd m k) D) (g : ∀ f w1, Ok K w1 → Step w w1 → PostS K E w1 (k f w1.st) D → FlOk K D' w1 f) : PostS K E w m D' := by
  match m, h with
  | some (.ok x st), h => exact fun w1 e o s => g x w1 o s (PostS.step s (by rw [e]; exact h))
  | some (.exc e st), h => exact h
theorem postS_lift {τ : Type} {o : Option τ} {st : Sto} {k : τ → Sto → MM Fl} (h : PostS K E w (bnd (lift o st) k) D) : ∃ x, o = some x ∧ PostS K E w (k x st) D := by
  cases o with
  | none => exact h.elim
  | some x => exact ⟨x, rfl, h⟩
theorem postS_ite {p : Prop} [Decidable p] (h : PostS K E w (if p then m else none) D) : p ∧ PostS K E w m D := by
  by_cases q : p
  · rw [if_pos q] at h; exact ⟨q, h⟩
  · rw [if_neg q] at h; exact h.elim
end
def RefS (K : PySem.W.Frag) (E : XK) (t : TS) (g : FS) : Prop := ∀ sl σ w D, Ok K w → Slots K w sl σ → PostS K E w (g sl w.st) D → t D σ w.H
structure MS (X : Cx) (E : XK) (s : Stmt) (g : FS) : Prop where
  ex : ∃ t, PS X s t ∧ RefS X.K E t g
structure MSs (X : Cx) (E : XK) (s : List Stmt) (g : FS) : Prop where
  ex : ∃ t, PSs X s t ∧ RefS X.K E t g
/-! targets -/
abbrev FG := D → Sl → Sto → MM Sl
abbrev FGs := List D → Sl → Sto → MM Sl
def RefG (K : PySem.W.Frag) (E : XK) (t : TG) (g : FG) : Prop := ∀ v d sl σ w (Q : St → Hp → Prop), Ok K w → Rep K w.F w.al v d → Slots K w sl σ → Post K E (fun w σ sl => Slots K w sl σ) w (g d sl w.st) Q → t v σ w.H Q
def RefGs (K : PySem.W.Frag) (E : XK) (t : TGs) (g : FGs) : Prop := ∀ vs ds sl σ w (Q : St → Hp → Prop), Ok K w → Reps K w.F w.al vs ds → Slots K w sl σ → Post K E (fun w σ sl => Slots K w sl σ) w (g ds sl w.st) Q → t vs σ w.H Q
structure MG (X : Cx) (E : XK) (e : Expr) (g : FG) : Prop where
  ex : ∃ t, PG X e t ∧ RefG X.K E t g
structure MGs (X : Cx) (E : XK) (e : List Expr) (g : FGs) : Prop where
  ex : ∃ t, PGs X e t ∧ RefGs X.K E t g
section
variable {X : Cx} {E : XK} {K : PySem.W.Frag} {a b c e o : Expr} {es rest : List Expr} {fa fb fc : FE} {ga gb : FT} {fs : FA} {ta tb tc : TE} {pos : Pos} {st : Stmt} {sts : List Stmt} {g g1 g2 : FS} {t u : TS}
def gNm (i : Nat) : FG := fun d sl st => ret (sl.set i (some d)) st
theorem mg_name {i : Nat} {x : Str} (hN : X.N.Nodup) (hi : X.N[i]? = some x := by rfl) (hx : Loc X.env.scope x := by first | exact Or.inl rfl | exact Or.inr rfl) (hf : X.fn x = true ∨ X.env.scope.names.lookup x = some .local := by first | exact .inl rfl | exact .inr rfl | assumption) : MG X E (.Name x pos) (gNm i) :=
  ⟨_, pg_name hN hi hx hf, fun v d sl σ w Q o r s h => h (σ.set i (some v)) w rfl o (Step.refl w) (s.set r)⟩
def gsNil : FGs := fun ds sl st => match ds with
  | [] => ret sl st
  | _ => none
def gsCons (g : FG) (r : FGs) : FGs := fun ds sl st => match ds with
  | d :: ds => bnd (g d sl st) fun sl st => r ds sl st
  | [] => none
theorem mgs_nil : MGs X E [] gsNil := ⟨_, pgs_nil, fun vs ds sl σ w Q o r s h => by
  cases r with
  | nil => exact ⟨rfl, h σ w rfl o (Step.refl w) s⟩
  | cons _ _ => exact h.elim⟩
theorem mgs_cons {gt : FG} {gr : FGs} (h1 : MG X E e gt) (h2 : MGs X E es gr) (hs : (assignEach (e :: es) X.env).map (·.2) = assign e X.env :: (assignEach es X.env).map (·.2) := by rfl) : MGs X E (e :: es) (gsCons gt gr) := by
  obtain ⟨t, p, q⟩ := h1.ex
  obtain ⟨t', p', q'⟩ := h2.ex
  refine ⟨_, pgs_cons p p' hs, fun vs ds sl σ w Q o r s h => ?_⟩
  cases r with
  | nil => exact h.elim
  | cons r1 r2 =>
    refine ⟨_, _, rfl, q _ _ sl σ w _ o r1 s (post_bnd h fun σ' sl' w1 o1 s1 sl1 hp => ?_)⟩
    exact q' _ _ sl' σ' w1 Q o1 (r2.mono s1.le s1.pre) sl1 hp
def gTp (n : Nat) (r : FGs) : FG := fun d sl st => match d with
  | .tup ds => if ds.length = n then r ds sl st else none
  | _ => none
theorem mg_tup {k : Nat} {gr : FGs} {n : Nat} (hc : X.calm = true) (h : MGs X E es gr) (hn : (assignEach es X.env).length = n := by rfl) (hst : (assignEach es X.env).findIdx? (·.1) = none := by rfl) : MG X E (.Tuple es k pos) (gTp n gr) := by
  obtain ⟨t, q, r⟩ := h.ex
  refine ⟨_, pg_tup hc q hn hst, fun v d sl σ w Q o rv s hq => ?_⟩
  cases d with
  | tup ds =>
    obtain ⟨hl, hq⟩ := post_ite (p := ds.length = n) hq
    obtain ⟨a, xs, rfl, f, rs⟩ := rv.tup_inv
    exact ⟨a, xs, rfl, SqT.of (o.sub _ _ f), by rw [rs.length]; exact hl, r xs ds sl σ w Q o rs s hq⟩
  | _ => exact hq.elim

/-! ### blocks -/
def sNext : FS := fun sl st => ret (.nx sl) st
def sSeq (g1 g2 : FS) : FS := fun sl st => bnd (g1 sl st) fun f st => match f with
  | .nx sl => g2 sl st
  | f => ret f st
theorem mss_nil : MSs X E [] sNext := ⟨_, pss_nil, fun sl σ w D o s h => postS_ret o h σ s⟩
theorem FlOk.nx_of {D D' : Ends} {w : Ws} {f : Fl} (hr : D.rt = D'.rt) (hb : D.bk = D'.bk) (hc : D.ct = D'.ct) (hn : ∀ sl, f = .nx sl → FlOk K D' w f) (h : FlOk K D w f) : FlOk K D' w f := by
  cases f with
  | nx sl => exact hn sl rfl
  | rt d => exact fun v r => hr ▸ h v r
  | bk sl => exact fun v r => hb ▸ h v r
  | ct sl => exact fun v r => hc ▸ h v r
theorem ref_seq (h1 : RefS K E t g1) (h2 : RefS K E u g2) : RefS K E (tSeq t u) (sSeq g1 g2) := fun sl σ w D o s h => by
  refine h1 sl σ w _ o s (postS_bnd h fun f w1 o1 s1 hf => ?_)
  cases f with
  | nx sl' => exact fun σ' s' => h2 sl' σ' w1 D o1 s' hf
  | rt d => exact postS_ret (E := E) o1 hf
  | bk sl' => exact postS_ret (E := E) o1 hf
  | ct sl' => exact postS_ret (E := E) o1 hf
theorem mss_cons (h1 : MS X E st g1) (h2 : MSs X E sts g2) : MSs X E (st :: sts) (sSeq g1 g2) := by
  obtain ⟨t, p, q⟩ := h1.ex
  obtain ⟨t', p', q'⟩ := h2.ex
  exact ⟨_, pss_cons p p', ref_seq q q'⟩
theorem mss_one (h1 : MS X E st g1) : MSs X E [st] g1 := by
  obtain ⟨t, p, q⟩ := h1.ex
  exact ⟨_, pss_one p, q⟩
/-- the cell that a name holds is let be from here on -/
def frzAt (i : Nat) (sl : Sl) (st : Sto) : Option (Sl × Sto) := match gv sl i with
  | some (.ptr j) => match st[j]? with
    | some (some (.lst ds)) => some (sl.set i (some (.lst ds)), st.set j none)
    | some (some (.dct ds)) => some (sl.set i (some (.dct ds)), st.set j none)
    | some (some (.dcT ds)) => some (sl.set i (some (.dcT ds)), st.set j none)
    | _ => none
  | _ => some (sl, st)
def sFrz (i : Nat) (g : FS) : FS := fun sl st => match frzAt i sl st with
  | some (sl, st) => g sl st
  | none => none
theorem slots_same {w : Ws} {sl : Sl} {σ : St} {i : Nat} {v : V} {d : D} (s : Slots K w sl σ) (hσ : σ[i]? = some (some v)) (r : Rep K w.F w.al v d) : Slots K w (sl.set i (some d)) σ := by
  refine ⟨by rw [List.length_set]; exact s.len, fun j e q => ?_⟩
  by_cases hj : i = j
  · subst hj
    by_cases hi : i < sl.length
    · rw [List.getElem?_set_self hi] at q
      cases q; exact ⟨v, hσ, r⟩
    · rw [List.getElem?_eq_none (by rw [List.length_set]; omega)] at q; cases q
  · rw [List.getElem?_set_ne hj] at q
    exact s.get j e q
theorem ref_frz (i : Nat) (h : RefS K E t g) : RefS K E t (sFrz i g) := fun sl σ w D o s hp => by
  have hp : PostS K E w (match frzAt i sl w.st with
    | some (sl, st) => g sl st
    | none => none) D := hp
  unfold frzAt at hp
  cases e : gv sl i with
  | none => rw [e] at hp; exact h sl σ w D o s hp
  | some d =>
    rw [e] at hp
    cases d with
    | ptr j =>
      obtain ⟨v, hσ, rv⟩ := s.get i _ (gv_some e)
      cases q : w.st[j]? with
      | none => simp only [q] at hp; exact hp.elim
      | some oc =>
        cases oc with
        | none => simp only [q] at hp; exact hp.elim
        | some c =>
          obtain ⟨a, rfl, ha, hF, ca⟩ := cell_at o rv q
          have lj : Live w.st j := ⟨c, q⟩
          cases c with
          | lst ds =>
            simp only [q] at hp
            cases ca with
            | @lst xs _ hx rs =>
              have o1 := ok_frz o lj ha hx
              have s1 := step_frz (u := .lst xs) o lj ha
              refine h _ σ (w.frz j a _) D o1 (slots_same (s.step s1) hσ (.lst (show upd w.F a _ a = _ from upd_same) (rs.mono s1.le s1.pre))) (PostS.step s1 hp)
          | dct ds =>
            simp only [q] at hp
            cases ca with
            | @dct kvs _ hx ek rs =>
              have o1 := ok_frz o lj ha hx
              have s1 := step_frz (u := .dK kvs) o lj ha
              refine h _ σ (w.frz j a _) D o1 (slots_same (s.step s1) hσ (.dct (.inl (show upd w.F a _ a = _ from upd_same)) ek (rs.mono s1.le s1.pre))) (PostS.step s1 hp)
          | dcT ds =>
            simp only [q] at hp
            cases ca with
            | @dcT kvs _ hx ek rs =>
              have o1 := ok_frz o lj ha hx
              have s1 := step_frz (u := .dT kvs) o lj ha
              refine h _ σ (w.frz j a _) D o1 (slots_same (s.step s1) hσ (.dcT (.inl (show upd w.F a _ a = _ from upd_same)) ek (rs.mono s1.le s1.pre))) (PostS.step s1 hp)
          | ins C fs => simp only [q] at hp; exact hp.elim
    | _ => exact h sl σ w D o s hp
theorem mss_frz (i : Nat) (h : MSs X E sts g) : MSs X E sts (sFrz i g) := by
  obtain ⟨t, p, q⟩ := h.ex
  exact ⟨_, p, ref_frz i q⟩
/-! ### simple statements -/
def sAsg (f : FE) (g : FG) : FS := fun sl st => bnd (f sl st) fun d st => bnd (g d sl st) fun sl st => ret (.nx sl) st
theorem ref_asg {tg : TG} {gg : FG} (h : RefE K E ta fa) (hg : RefG K E tg gg) : RefS K E (tAsg ta tg) (sAsg fa gg) := fun sl σ w D o s hp => by
  refine h sl σ w _ o s (post_bndS hp fun v x w1 o1 s1 r h1 => ?_)
  refine hg v x sl σ w1 _ o1 r (s.step s1) (post_bndS h1 fun σ' sl' w2 o2 s2 r2 h2 => ?_)
  exact postS_ret o2 h2 σ' r2
theorem ms_asg {tg : Expr} {gg : FG} (he : ME X E e fa) (hg : MG X E tg gg) (hs : swapsWithSole [tg] e pos.line X.env = pure false := by rfl) (hw : swappedStores [tg] e X.env = pure none := by rfl) (h1 : (assignEach [tg] X.env).map (·.2) = [assign tg X.env] := by rfl) : MS X E (.Assign [tg] e pos) (sAsg fa gg) := by
  obtain ⟨t, p, q⟩ := he.ex
  obtain ⟨t', p', q'⟩ := hg.ex
  exact ⟨_, ps_asg p p' hs hw (h1 := h1), ref_asg q q'⟩
theorem ms_set {i : Nat} {x : Str} {pos' : Pos} (hN : X.N.Nodup) (he : ME X E e fa) (hi : X.N[i]? = some x := by rfl) (hx : Loc X.env.scope x := by first | exact Or.inl rfl | exact Or.inr rfl) (hs : swapsWith e (some (.Name x pos')) pos.line X.env = pure false := by rfl)
    (hf : X.fn x = true ∨ X.env.scope.names.lookup x = some .local := by first | exact .inl rfl | exact .inr rfl | assumption) : MS X E (.Assign [.Name x pos'] e pos) (sAsg fa (gNm i)) := by
  obtain ⟨t, p, q⟩ := he.ex
  refine ⟨_, ps_set hN hi hx p hs hf, ref_asg q fun v d sl σ w Q o r s h => h (σ.set i (some v)) w rfl o (Step.refl w) (s.set r)⟩
def sDrop (f : FE) : FS := fun sl st => bnd (f sl st) fun _ st => ret (.nx sl) st
theorem ms_expr (he : ME X E e fa) (hs : swapsWith e none pos.line X.env = pure false := by rfl) : MS X E (.Expr e pos) (sDrop fa) := by
  obtain ⟨t, p, q⟩ := he.ex
  refine ⟨_, ps_expr p hs, fun sl σ w D o s hp => ?_⟩
  exact q sl σ w _ o s (post_bndS hp fun v x w1 o1 s1 r h1 => postS_ret o1 h1 σ (s.step s1))
def sRet (f : FE) : FS := fun sl st => bnd (f sl st) fun d st => ret (.rt d) st
theorem ms_ret (he : ME X E e fa) : MS X E (.Return (some e) pos) (sRet fa) := by
  obtain ⟨t, p, q⟩ := he.ex
  refine ⟨_, ps_ret p, fun sl σ w D o s hp => ?_⟩
  exact q sl σ w _ o s (post_bndS hp fun v x w1 o1 s1 r h1 => postS_ret o1 h1 v r)
def sRetN : FS := fun sl st => ret (.rt .non) st
theorem ms_retN : MS X E (.Return none pos) sRetN := ⟨_, ps_retN, fun sl σ w D o s hp => postS_ret o hp _ .non⟩
theorem ms_pass : MS X E (.Pass pos) sNext := ⟨_, ps_pass, fun sl σ w D o s h => postS_ret o h σ s⟩
theorem ms_doc {x j pos'} : MS X E (.Expr (.Constant (.str x) j pos) pos') sNext := ⟨_, ps_doc, fun sl σ w D o s h => postS_ret o h σ s⟩
def sBrk : FS := fun sl st => ret (.bk sl) st
def sCnt : FS := fun sl st => ret (.ct sl) st
theorem ms_brk : MS X E (.Break pos) sBrk := ⟨_, ps_break, fun sl σ w D o s h => postS_ret o h σ s⟩
theorem ms_cnt : MS X E (.Continue pos) sCnt := ⟨_, ps_continue, fun sl σ w D o s h => postS_ret o h σ s⟩
def sIf (c : FT) (g1 g2 : FS) : FS := fun sl st => bnd (c sl st) fun k st => cond k (g1 sl st) (g2 sl st)
theorem ref_if {tc : TT} (hc : RefT K E tc ga) (h1 : RefS K E t g1) (h2 : RefS K E u g2) : RefS K E (tIfS tc t u) (sIf ga g1 g2) := fun sl σ w D o s h => by
  refine hc sl σ w _ o s (post_bndS h fun v x w1 o1 s1 r hp => ?_)
  have r : v = x := r
  subst r
  cases v with
  | true => exact (if_pos rfl).mpr (h1 sl σ w1 D o1 (s.step s1) hp)
  | false => exact (if_neg Bool.false_ne_true).mpr (h2 sl σ w1 D o1 (s.step s1) hp)
theorem ms_if {s1 s2 : List Stmt} (hc : MT X E c ga) (h1 : MSs X E s1 g1) (h2 : MSs X E s2 g2) : MS X E (.If c s1 s2 pos) (sIf ga g1 g2) := by
  obtain ⟨t, p, q⟩ := hc.ex
  obtain ⟨t1, p1, q1⟩ := h1.ex
  obtain ⟨t2, p2, q2⟩ := h2.ex
  exact ⟨_, ps_if p p1 p2, ref_if q q1 q2⟩
/-! x += e, x -= e on whole numbers (and texts) -/
def sAug (i : Nat) (f : FE) (op : Sto → D → D → MM D) : FS := fun sl st => match gv sl i with
  | some x => bnd (f sl st) fun y st => bnd (op st x y) fun z st => ret (.nx (sl.set i (some z))) st
  | none => none
def RfIp (K : PySem.W.Frag) (E : XK) (ti : TIp) (g : Sto → D → D → MM D) : Prop := ∀ x y dx dy w (Q : VK), Ok K w → Rep K w.F w.al x dx → Rep K w.F w.al y dy → Post K E (rD K) w (g w.st dx dy) Q → ti x y w.H Q
theorem ms_aug {i : Nat} {x : Str} {op : Operator} {ti : TIp} {gi : Sto → D → D → MM D} {pos' : Pos} (hN : X.N.Nodup) (he : ME X E e fa) (ho : PIp X op ti) (hr : RfIp X.K E ti gi) (hi : X.N[i]? = some x := by rfl) (hx : Loc X.env.scope x := by first | exact Or.inl rfl | exact Or.inr rfl)
    (hf : X.fn x = true ∨ X.env.scope.names.lookup x = some .local := by first | exact .inl rfl | exact .inr rfl | assumption) : MS X E (.AugAssign (.Name x pos') op e pos) (sAug i fa gi) := by
  obtain ⟨t, p, q⟩ := he.ex
  refine ⟨_, ps_aug hN hi hx p ho hf, fun sl σ w D o s hp => ?_⟩
  have hp : PostS X.K E w (match gv sl i with
    | some x => bnd (fa sl w.st) fun y st => bnd (gi st x y) fun z st => ret (.nx (sl.set i (some z))) st
    | none => none) D := hp
  cases eg : gv sl i with
  | none => rw [eg] at hp; exact hp.elim
  | some d =>
    rw [eg] at hp
    obtain ⟨v, h1, h2⟩ := s.get i d (gv_some eg)
    refine ⟨v, h1, q sl σ w _ o s (post_bndS hp fun y dy w1 o1 s1 ry hp1 => ?_)⟩
    refine hr v y d dy w1 _ o1 (h2.mono s1.le s1.pre) ry (post_bndS hp1 fun z dz w2 o2 s2 rz hp2 => ?_)
    exact postS_ret o2 hp2 _ (((s.step s1).step s2).set rz)
theorem rip_I {f : Int → Int → Int} : RfIp K E (ipI f) (gI0 fun i j => .int (f i j)) := fun x y dx dy w Q o rx ry hp => by
  cases dx with
  | int i =>
    cases dy with
    | int j => exact ⟨i, j, rx.int_inv, ry.int_inv, post_ret o (.int _) hp⟩
    | _ => exact hp.elim
  | _ => exact hp.elim
end
end M

namespace M
open PySem L2
/-- what a walk gives, whatever is done meanwhile to other things: ds, one behind the other -/
def SeqIt (K : PySem.W.Frag) (w : Ws) (J : It) (ds : List D) : Prop := ∀ w', Ok K w' → Step w w' → J.stop ds.length w'.H ∧
  ∀ i d, ds[i]? = some d → J.go i w'.H ∧ ∀ x H', J.yld i w'.H x H' → ∃ w'', w''.H = H' ∧ w''.st = w'.st ∧ Ok K w'' ∧ Step w' w'' ∧ Rep K w''.F w''.al x d
structure MI (X : Cx) (E : XK) (tg iter : Expr) (f : FA) : Prop where
  ex : ∃ wi, PI X tg iter wi ∧ ∀ sl σ w (R : It → Hp → Prop), Ok X.K w → Slots X.K w sl σ → Post X.K E (fun w J ds => SeqIt X.K w J ds) w (f sl w.st) R → wi σ w.H R
def forL (tg : FG) (body : FS) : List D → Sl → Sto → MM Fl
  | [], sl, st => ret (.nx sl) st
  | d :: ds, sl, st => bnd (tg d sl st) fun sl st => bnd (body sl st) fun f st => match f with
    | .nx sl => forL tg body ds sl st
    | .ct sl => forL tg body ds sl st
    | .bk sl => ret (.nx sl) st
    | .rt d => ret (.rt d) st
def sFor (it : FA) (tg : FG) (body : FS) : FS := fun sl st => bnd (it sl st) fun ds st => forL tg body ds sl st
theorem step_same {w w' : Ws} (h : w'.st = w.st) (l : w'.st.length = w.st.length) : w'.st = w.st := h
section
variable {X : Cx} {E : XK} {K : PySem.W.Frag} {a b c e o : Expr} {es rest : List Expr} {fa fb fc : FE} {fs : FA} {ta tb tc : TE} {pos : Pos} {tg iter : Expr} {body : List Stmt}
theorem ms_for {fi : FA} {gt : FG} {gb : FS} (hp : PassesOwn (model X.prog X.w) X.A X.env X.xe) (hc : X.calm = true) (hi : MI X E tg iter fi) (hg : MG X E tg gt) (hb : MSs X E body gb) (hs : ∀ x, foldedSetIterable iter X.env x = pure x := by intro _; rfl) : MS X E (.For tg iter body [] pos) (sFor fi gt gb) := by
  obtain ⟨wi, p, q⟩ := hi.ex
  obtain ⟨t1, p1, q1⟩ := hg.ex
  obtain ⟨t2, p2, q2⟩ := hb.ex
  refine ⟨_, ps_for hp hc p p1 p2 hs, fun sl σ w D o s h => ?_⟩
  refine q sl σ w _ o s (post_bndS h fun J ds w1 o1 s1 hJ hp => ?_)
  refine ⟨fun i m σ H => i + m = ds.length ∧ ∃ w' sl', w'.H = H ∧ Ok X.K w' ∧ Step w1 w' ∧ Slots X.K w' sl' σ ∧ PostS X.K E w' (forL gt gb (ds.drop i) sl' w'.st) D,
    ⟨ds.length, by omega, w1, sl, rfl, o1, Step.refl _, s.step s1, hp⟩, fun i m σ H ⟨em, w', sl', eH, o', st', sls, hW⟩ => ?_⟩
  subst eH
  obtain ⟨hstop, hgo⟩ := hJ w' o' st'
  cases m with
  | zero =>
    have ei : i = ds.length := by omega
    subst ei
    rw [List.drop_length] at hW
    exact .inl ⟨hstop, postS_ret o' hW σ sls⟩
  | succ m =>
    have hi : i < ds.length := by omega
    have ed : ds[i]? = some ds[i] := List.getElem?_eq_getElem hi
    obtain ⟨g1, g2⟩ := hgo i _ ed
    refine .inr ⟨g1, fun σ2 H2 => ∃ w2 sl2, w2.H = H2 ∧ Ok X.K w2 ∧ Step w1 w2 ∧ Slots X.K w2 sl2 σ2 ∧ PostS X.K E w2 (forL gt gb (ds.drop (i + 1)) sl2 w2.st) D, fun σ2 H2 ⟨w2, sl2, e2, o2, st2, s2, hW2⟩ => ⟨m, by omega, by omega, w2, sl2, e2, o2, st2, s2, hW2⟩, fun x H' hy => ?_⟩
    obtain ⟨w2, rfl, est, o2, st2, rx⟩ := g2 x H' hy
    rw [List.drop_eq_getElem_cons hi] at hW
    have hW2 := PostS.step st2 hW
    have hW2 : PostS X.K E w2 (bnd (gt ds[i] sl' w2.st) fun sl st => bnd (gb sl st) fun f st => match f with
      | .nx sl => forL gt gb (ds.drop (i + 1)) sl st
      | .ct sl => forL gt gb (ds.drop (i + 1)) sl st
      | .bk sl => ret (.nx sl) st
      | .rt d => ret (.rt d) st) D := by rw [est]; exact hW2
    refine q1 x ds[i] sl' σ w2 _ o2 rx (sls.step st2) (post_bndS hW2 fun σ3 sl3 w3 o3 s3 r3 h3 => ?_)
    refine q2 sl3 σ3 w3 _ o3 r3 (postS_bnd h3 fun f w4 o4 s4 h4 => ?_)
    have s14 : Step w1 w4 := ((st'.trans st2).trans s3).trans s4
    cases f with
    | nx sl4 => exact fun σ4 z => ⟨w4, sl4, rfl, o4, s14, z, h4⟩
    | ct sl4 => exact fun σ4 z => ⟨w4, sl4, rfl, o4, s14, z, h4⟩
    | bk sl4 => exact fun σ4 z => postS_ret (E := E) o4 h4 σ4 z
    | rt d => exact fun v z => postS_ret (E := E) o4 h4 v z
/-! ### what is walked -/
/-- the items of a list that is not changed -/
def seqOf : D → Option (List D)
  | .lst ds => some ds
  | .scr ns => some (ns.map .int)
  | _ => none
theorem seqOf_rep {w : Ws} {v : V} {d : D} {ds : List D} (r : Rep K w.F w.al v d) (h : seqOf d = some ds) : ∃ a xs, v = .ref a ∧ SqL K w.F a xs ∧ Reps K w.F w.al xs ds := by
  cases d with
  | lst es =>
    obtain ⟨a, xs, e, f, rs⟩ := r.lst_inv
    cases h
    exact ⟨a, xs, e, SqL.of f, rs⟩
  | scr ns =>
    obtain ⟨a, e, s⟩ := r.scr_inv
    cases h
    exact ⟨a, _, e, s, reps_ints ns⟩
  | _ => cases h
theorem Step.sqL {w w' : Ws} (o : Ok K w') (s : Step w w') {a : Addr} {xs : List V} (h : SqL K w.F a xs) : SqL K w'.H a xs := sub_sqL o (s.le.sqL h)
theorem seq_list {w : Ws} {a : Addr} {xs : List V} {ds : List D} (h : SqL K w.F a xs) (r : Reps K w.F w.al xs ds) : SeqIt K w (Itl K a) ds := fun w' o s => by
  have h' := s.sqL o h
  refine ⟨⟨xs, h', Nat.le_of_eq r.length⟩, fun i d e => ?_⟩
  obtain ⟨v, e1, e2⟩ := r.get e
  refine ⟨⟨xs, v, h', e1⟩, fun x H' hy => ?_⟩
  obtain ⟨rfl, hx⟩ := hy
  have ex : x = v := Option.some.inj ((hx xs h').symm.trans e1)
  subst ex
  exact ⟨w', rfl, rfl, o, Step.refl _, e2.mono s.le s.pre⟩
def iL (f : FE) : FA := fun sl st => bnd (f sl st) fun d st => match seqOf d with
  | some ds => ret ds st
  | none => none
theorem mi_list (h : ME X E e fa) : MI X E tg e (iL fa) := by
  obtain ⟨t, p, q⟩ := h.ex
  refine ⟨_, pi_list p, fun sl σ w R o s h => ?_⟩
  refine q sl σ w _ o s (post_bnd h fun v d w1 o1 s1 r hp => ?_)
  cases hd : seqOf d with
  | none => rw [hd] at hp; exact hp.elim
  | some ds =>
    rw [hd] at hp
    obtain ⟨a, xs, rfl, h1, rs⟩ := seqOf_rep r hd
    exact ⟨a, rfl, ⟨xs, sub_sqL o1 h1⟩, post_ret (rp := fun w J ds => SeqIt X.K w J ds) o1 (seq_list h1 rs) hp⟩
def iT (f : FE) : FA := fun sl st => bnd (f sl st) fun d st => match d with
  | .tup ds => ret ds st
  | _ => none
theorem seq_tup {w : Ws} {a : Addr} {xs : List V} {ds : List D} (h : w.F a = some (.tup xs)) (r : Reps K w.F w.al xs ds) : SeqIt K w (Itt K a) ds := fun w' o s => by
  have h' : SqT K w'.H a xs := SqT.of (o.sub _ _ (s.le.tup _ _ h))
  refine ⟨⟨xs, h', Nat.le_of_eq r.length⟩, fun i d e => ?_⟩
  obtain ⟨v, e1, e2⟩ := r.get e
  refine ⟨⟨xs, v, h', e1⟩, fun x H' hy => ?_⟩
  obtain ⟨rfl, hx⟩ := hy
  have ex : x = v := Option.some.inj ((hx xs h').symm.trans e1)
  subst ex
  exact ⟨w', rfl, rfl, o, Step.refl _, e2.mono s.le s.pre⟩
theorem mi_tup (h : ME X E e fa) : MI X E tg e (iT fa) := by
  obtain ⟨t, p, q⟩ := h.ex
  refine ⟨_, pi_tup p, fun sl σ w R o s h => ?_⟩
  refine q sl σ w _ o s (post_bnd h fun v d w1 o1 s1 r hp => ?_)
  cases d with
  | tup ds =>
    obtain ⟨a, xs, rfl, f, rs⟩ := r.tup_inv
    exact ⟨a, rfl, ⟨xs, SqT.of (o1.sub _ _ f)⟩, post_ret (rp := fun w J ds => SeqIt X.K w J ds) o1 (seq_tup f rs) hp⟩
  | _ => exact hp.elim
def rngD (lo : Int) (n : Nat) : List D := (List.range n).map fun (i : Nat) => .int (lo + i)
theorem seq_rng {w : Ws} (lo : Int) (n : Nat) : SeqIt K w (Itr lo n) (rngD lo n) := fun w' o s => by
  have el : (rngD lo n).length = n := by unfold rngD; rw [List.length_map, List.length_range]
  refine ⟨by rw [el]; exact Nat.le_refl _, fun i d e => ?_⟩
  unfold rngD at e
  rw [List.getElem?_map] at e
  have hi : i < n := by
    by_cases z : i < n
    · exact z
    · rw [List.getElem?_eq_none (by rw [List.length_range]; omega)] at e; cases e
  rw [List.getElem?_range hi] at e
  cases e
  refine ⟨hi, fun x H' hy => ?_⟩
  obtain ⟨rfl, rfl⟩ := hy
  exact ⟨w', rfl, rfl, o, Step.refl _, .int _⟩
def iR1 (f : FA) : FA := fun sl st => bnd (f sl st) fun ds st => match ds with
  | [.int j] => if -(2 ^ 62) ≤ j ∧ j < 2 ^ 62 then ret (rngD 0 j.toNat) st else none
  | _ => none
def iR2 (f : FA) : FA := fun sl st => bnd (f sl st) fun ds st => match ds with
  | [.int i, .int j] => if -(2 ^ 62) ≤ i ∧ i < 2 ^ 62 ∧ -(2 ^ 62) ≤ j ∧ j < 2 ^ 62 then ret (rngD i (j - i).toNat) st else none
  | _ => none
theorem mi_range1 {p : Pos} (ha : MA X E [a] fs) (hm : X.mg "range" = none) (hg : Gl X "range" := by rfl) (hs : starEach [a] X.env = [(false, eval a X.env)] := by rfl) : MI X E tg (.Call (.Name "range" p) [a] [] pos) (iR1 fs) := by
  obtain ⟨t, p, q⟩ := ha.ex
  refine ⟨_, pi_range1 hg hm p hs, fun sl σ w R o s h => ?_⟩
  refine q sl σ w _ o s (post_bnd h fun vs ds w1 o1 s1 r hp => ?_)
  split at hp
  · rename_i j
    obtain ⟨x, rfl, rx⟩ := r.one_inv
    obtain ⟨hc, hp⟩ := post_ite (p := -(2 ^ 62) ≤ j ∧ j < 2 ^ 62) hp
    exact ⟨j, by rw [rx.int_inv], hc.1, hc.2, post_ret (rp := fun w J ds => SeqIt X.K w J ds) o1 (seq_rng _ _) hp⟩
  · exact hp.elim
theorem mi_range2 {p : Pos} (ha : MA X E [a, b] fs) (hm : X.mg "range" = none) (hg : Gl X "range" := by rfl) (hs : starEach [a, b] X.env = [(false, eval a X.env), (false, eval b X.env)] := by rfl) (hs2 : starEach [b] X.env = [(false, eval b X.env)] := by rfl) : MI X E tg (.Call (.Name "range" p) [a, b] [] pos) (iR2 fs) := by
  obtain ⟨t, p, q⟩ := ha.ex
  refine ⟨_, pi_range2 hg hm p hs hs2, fun sl σ w R o s h => ?_⟩
  refine q sl σ w _ o s (post_bnd h fun vs ds w1 o1 s1 r hp => ?_)
  split at hp
  · rename_i i j
    obtain ⟨x, y, rfl, rx, ry⟩ := r.two_inv
    obtain ⟨hc, hp⟩ := post_ite (p := -(2 ^ 62) ≤ i ∧ i < 2 ^ 62 ∧ -(2 ^ 62) ≤ j ∧ j < 2 ^ 62) hp
    exact ⟨i, j, by rw [rx.int_inv, ry.int_inv], hc, post_ret (rp := fun w J ds => SeqIt X.K w J ds) o1 (seq_rng _ _) hp⟩
  · exact hp.elim
def chrD (x : Str) : List D := x.cps.toList.map fun c => .str ⟨#[c]⟩
theorem seq_str {w : Ws} (x : Str) : SeqIt K w (Its x) (chrD x) := fun w' o s => by
  have el : (chrD x).length = x.cps.size := by unfold chrD; rw [List.length_map]; rfl
  refine ⟨by rw [el]; exact Nat.le_refl _, fun i d e => ?_⟩
  unfold chrD at e
  rw [List.getElem?_map] at e
  cases q : x.cps.toList[i]? with
  | none => rw [q] at e; cases e
  | some c =>
    rw [q] at e; cases e
    have hi : i < x.cps.size := by
      have := (List.getElem?_eq_some_iff.mp q).1
      rwa [Array.length_toList] at this
    refine ⟨hi, fun v H' hy => ?_⟩
    obtain ⟨rfl, c', hc, rfl⟩ := hy
    rw [← Array.getElem?_toList, q] at hc
    cases hc
    exact ⟨w', rfl, rfl, o, Step.refl _, .str _⟩
def iS (f : FE) : FA := fun sl st => bnd (f sl st) fun d st => match d with
  | .str x => ret (chrD x) st
  | _ => none
theorem mi_str (h : ME X E e fa) : MI X E tg e (iS fa) := by
  obtain ⟨t, p, q⟩ := h.ex
  refine ⟨_, pi_str p, fun sl σ w R o s h => ?_⟩
  refine q sl σ w _ o s (post_bnd h fun v d w1 o1 s1 r hp => ?_)
  cases d with
  | str x => exact ⟨x, r.str_inv, post_ret (rp := fun w J ds => SeqIt X.K w J ds) o1 (seq_str x) hp⟩
  | _ => exact hp.elim
/-- pairs of an index and an item -/
def enumD (ds : List D) : List D := ds.zipIdx.map fun p => .tup [.int p.2, p.1]
theorem seq_enum {w : Ws} {a : Addr} {xs : List V} {ds : List D} (h : SqL K w.F a xs) (r : Reps K w.F w.al xs ds) : SeqIt K w (Ite K a) (enumD ds) := fun w' o s => by
  have h' := s.sqL o h
  have el : (enumD ds).length = ds.length := by unfold enumD; rw [List.length_map, List.length_zipIdx]
  refine ⟨⟨xs, h', by rw [el]; exact Nat.le_of_eq r.length⟩, fun i d e => ?_⟩
  unfold enumD at e
  rw [List.getElem?_map, List.getElem?_zipIdx] at e
  cases q : ds[i]? with
  | none => rw [q] at e; cases e
  | some d0 =>
    rw [q] at e
    simp only [Option.map_some, Option.some.injEq] at e
    subst e
    obtain ⟨v, e1, e2⟩ := r.get q
    refine ⟨⟨xs, v, h', e1⟩, fun x H' hy => ?_⟩
    obtain ⟨T, y, rfl, nT, rfl, hx⟩ := hy
    have ex : y = v := Option.some.inj ((hx xs h').symm.trans e1)
    subst ex
    have s2 := step_newV o nT (.tup [.int (i : Nat), y])
    refine ⟨w'.newV T (.tup [.int (i : Nat), y]), rfl, rfl, ok_newV o nT _, s2, .tup (show upd w'.F T _ T = _ from upd_same) (.cons ?_ (.cons ((e2.mono s.le s.pre).mono s2.le s2.pre) .nil))⟩
    rw [Nat.zero_add]
    exact .int _
def iE (f : FA) : FA := fun sl st => bnd (f sl st) fun ds st => match ds with
  | [d] => match seqOf d with
    | some ds => ret (enumD ds) st
    | none => none
  | _ => none
theorem mi_enum {elts : List Expr} {kk : Nat} {tpos p : Pos} (ha : MA X E [e] fs) (hm : X.mg "enumerate" = none) (hg : Gl X "enumerate" := by rfl) (hs : starEach [e] X.env = [(false, eval e X.env)] := by rfl) : MI X E (.Tuple elts kk tpos) (.Call (.Name "enumerate" p) [e] [] pos) (iE fs) := by
  obtain ⟨t, p, q⟩ := ha.ex
  refine ⟨_, pi_enum hg hm p hs, fun sl σ w R o s h => ?_⟩
  refine q sl σ w _ o s (post_bnd h fun vs ds w1 o1 s1 r hp => ?_)
  split at hp
  · rename_i d
    obtain ⟨x, rfl, rx⟩ := r.one_inv
    cases hd : seqOf d with
    | none => rw [hd] at hp; exact hp.elim
    | some ds =>
      rw [hd] at hp
      obtain ⟨a, xs, rfl, h1, rs⟩ := seqOf_rep rx hd
      exact ⟨a, xs, rfl, sub_sqL o1 h1, post_ret (rp := fun w J ds => SeqIt X.K w J ds) o1 (seq_enum h1 rs) hp⟩
  · exact hp.elim
end
end M

namespace M
open PySem PySem.Spec PyProof.Rows L2
/-! ### data without cells -/
mutual
def pf : D → Bool
  | .tup ds => pfs ds
  | .lst ds => pfs ds
  | .dct kvs => pfk kvs
  | .dcT kvs => pft kvs
  | .ptr _ => false
  | .non => true
  | .bl _ => true
  | .int _ => true
  | .str _ => true
  | .scr _ => true
def pfs : List D → Bool
  | [] => true
  | d :: r => pf d && pfs r
def pfk : List (Key × D) → Bool
  | [] => true
  | (_, d) :: r => pf d && pfk r
def pft : List (List Key × D) → Bool
  | [] => true
  | (_, d) :: r => pf d && pft r
end
theorem pfk_eq : ∀ kvs : List (Key × D), pfk kvs = pfs (kvs.map (·.2))
  | [] => by simp [pfk, pfs]
  | (_, d) :: r => by simp [pfk, pfs, pfk_eq r]
theorem pft_eq : ∀ kvs : List (List Key × D), pft kvs = pfs (kvs.map (·.2))
  | [] => by simp [pft, pfs]
  | (_, d) :: r => by simp [pft, pfs, pft_eq r]
section
variable {K : PySem.W.Frag} {F : Hp} {α β : List Addr}
mutual
theorem Rep.any : ∀ {v : V} {d : D}, Rep K F α v d → pf d = true → Rep K F β v d
  | _, _, .non, _ => .non
  | _, _, .bl b, _ => .bl b
  | _, _, .int i, _ => .int i
  | _, _, .str s, _ => .str s
  | _, _, .tup h r, p => .tup h (Reps.any r (by rw [pf] at p; exact p))
  | _, _, .lst h r, p => .lst h (Reps.any r (by rw [pf] at p; exact p))
  | _, _, .dct h e r, p => .dct h e (Reps.any r (by rw [pf, pfk_eq] at p; exact p))
  | _, _, .dcT h e r, p => .dcT h e (Reps.any r (by rw [pf, pft_eq] at p; exact p))
  | _, _, .ptr h, p => by rw [pf] at p; exact absurd p Bool.false_ne_true
  | _, _, .scr h, _ => .scr h
theorem Reps.any : ∀ {vs : List V} {ds : List D}, Reps K F α vs ds → pfs ds = true → Reps K F β vs ds
  | _, _, .nil, _ => .nil
  | _, _, .cons h r, p => by
    rw [pfs, Bool.and_eq_true] at p
    exact .cons (Rep.any h p.1) (Reps.any r p.2)
end
end
def pfC : Cell → Bool
  | .lst ds => pfs ds
  | .dct kvs => pfk kvs
  | .dcT kvs => pft kvs
  | .ins _ fs => pfs (fs.map (·.2))
theorem CellAt.any {K : PySem.W.Frag} {F H : Hp} {α β : List Addr} {a : Addr} {c : Cell} (h : CellAt K F α H a c) (p : pfC c = true) : CellAt K F β H a c := by
  cases h with
  | lst h r => exact .lst h (r.any p)
  | dct h e r => exact .dct h e (r.any (by rw [pfC, pfk_eq] at p; exact p))
  | dcT h e r => exact .dcT h e (r.any (by rw [pfC, pft_eq] at p; exact p))
  | ins h e r => exact .ins h e (r.any p)
/-! ### a def's promise, by a plain function -/
def spM (K : PySem.W.Frag) (n : Nat) (m : List D → Sto → MM D) : Sp := fun vs H Q E => ∃ w ds, w.H = H ∧ Ok K w ∧ Reps K w.F w.al vs ds ∧ ds.length = n ∧ Post K E (rD K) w (m ds w.st) Q
theorem spM_len {K : PySem.W.Frag} {n : Nat} {m : List D → Sto → MM D} {vs : List V} {H : Hp} {Q : VK} {E : XK} (h : spM K n m vs H Q E) : vs.length = n := by
  obtain ⟨w, ds, _, _, r, e, _⟩ := h
  rw [r.length]; exact e
/-- how a caller may call it -/
def CallF (K : PySem.W.Frag) (E : XK) (n : Nat) (m c : List D → Sto → MM D) : Prop := ∀ w vs ds (Q : VK), Ok K w → Reps K w.F w.al vs ds → Post K E (rD K) w (c ds w.st) Q → spM K n m vs w.H Q E
def callA (n : Nat) (m : List D → Sto → MM D) : List D → Sto → MM D := fun ds st => if ds.length = n then m ds st else none
theorem callf_A {K : PySem.W.Frag} {E : XK} {n : Nat} {m : List D → Sto → MM D} : CallF K E n m (callA n m) := fun w vs ds Q o r h => by
  obtain ⟨e, h⟩ := post_ite h
  exact ⟨w, ds, rfl, o, r, e, h⟩
section
variable {K : PySem.W.Frag} {w wc w' : Ws}
/-- a part of the world was handed on, and came back -/
theorem core (o : Ok K w) (hF : wc.F = w.F) (hH : wc.H = w.H) (hsub : ∀ b, Own wc b → Own w b) (o' : Ok K w') (s : Step wc w') (st2 : Sto) (hlen : st2.length = w.st.length) (hlive : ∀ j, Live st2 j → Live w.st j)
    (hin : ∀ (j : Nat) b c, st2[j]? = some (some c) → w.al[j]? = some b → Own wc b → w'.F b = none ∧ CellAt K w'.F w.al w'.H b c) (hout : ∀ (j : Nat) b c, st2[j]? = some (some c) → w.al[j]? = some b → ¬ Own wc b → w.st[j]? = some (some c)) :
    Ok K ⟨st2, w.al, w'.F, w'.H⟩ ∧ Step w ⟨st2, w.al, w'.F, w'.H⟩ := by
  have hle : Le w.F w'.F := by rw [← hF]; exact s.le
  have fr : ∀ b x, w.H b = some x → ¬ Own wc b → w'.H b = some x := fun b x e n => s.frame b x (by rw [hH]; exact e) n
  have ol : ∀ b, w.H b ≠ none → (∀ xs, w.H b ≠ some (.tup xs)) → ¬ Own wc b → w'.F b = w.F b := fun b e t n => (s.old b (by rw [hH]; exact e) (by rw [hH]; exact t) n).trans (by rw [hF])
  refine ⟨⟨o.len.trans hlen.symm, o'.sub, fun j c h => ?_, fun i j a li lj => o.inj i j a (hlive i li) (hlive j lj)⟩, ⟨Pre.refl _, hle, fun b x e n => fr b x e fun z => n (hsub b z), fun b e t n => ol b e t fun z => n (hsub b z), fun b e => s.there b (by rw [hH]; exact e), fun b ⟨i, li, e⟩ => .inl ⟨i, hlive i li, e⟩⟩⟩
  obtain ⟨cj, hj⟩ := hlive j ⟨c, h⟩
  obtain ⟨b, eb, fb, cb⟩ := o.own j cj hj
  by_cases z : Own wc b
  · obtain ⟨h1, h2⟩ := hin j b c h eb z
    exact ⟨b, eb, h1, h2⟩
  · have q := hout j b c h eb z
    rw [q] at hj; cases hj
    refine ⟨b, eb, (ol b cb.some cb.notTup z).trans fb, cb.mono hle (Pre.refl _) ?_⟩
    cases r : w.H b with
    | none => exact absurd r cb.some
    | some x => exact fr b x r z
theorem adopt (o : Ok K w) {b : Addr} {c : Cell} (hb : ¬ Own w b) (hF : w.F b = none) (hc : CellAt K w.F (w.al ++ [b]) w.H b c) : Ok K ⟨w.st ++ [some c], w.al ++ [b], w.F, w.H⟩ := by
  have old : ∀ (i : Nat) a, Live w.st i → (w.al ++ [b])[i]? = some a → w.al[i]? = some a := fun i a l e => by
    rw [List.getElem?_append_left (by rw [o.len]; exact l.lt)] at e; exact e
  have new : ∀ (i : Nat) a, i = w.st.length → (w.al ++ [b])[i]? = some a → a = b := fun i a l e => by
    rw [List.getElem?_append_right (by rw [o.len, l]; exact Nat.le_refl _), o.len, l, Nat.sub_self] at e
    cases e; rfl
  refine ⟨?_, o.sub, fun i d h => ?_, fun i j a li lj ei ej => ?_⟩
  · show (w.al ++ [b]).length = (w.st ++ [some c]).length
    rw [List.length_append, List.length_append, o.len]; rfl
  · have h' : (w.st ++ [some c])[i]? = some (some d) := h
    by_cases z : i < w.st.length
    · rw [List.getElem?_append_left z] at h'
      obtain ⟨a, e, f, ca⟩ := o.own i d h'
      exact ⟨a, Pre.app _ _ _ _ e, f, ca.mono (Le.refl _) (Pre.app _ _) rfl⟩
    · have q := (List.getElem?_eq_some_iff.mp h').1
      rw [List.length_append, List.length_singleton] at q
      have ei : i = w.st.length := by omega
      subst ei
      rw [List.getElem?_append_right (Nat.le_refl _), Nat.sub_self] at h'
      cases h'
      refine ⟨b, ?_, hF, hc⟩
      show (w.al ++ [b])[w.st.length]? = some b
      rw [List.getElem?_append_right (by rw [o.len]; exact Nat.le_refl _), o.len, Nat.sub_self]; rfl
  · rcases live_app li with zi | zi <;> rcases live_app lj with zj | zj
    · exact o.inj i j a zi zj (old i a zi ei) (old j a zj ej)
    · exact absurd ⟨i, zi, by rw [← new j a zj ej]; exact old i a zi ei⟩ hb
    · exact absurd ⟨j, zj, by rw [← new i a zi ei]; exact old j a zj ej⟩ hb
    · rw [zi, zj]
theorem step_adopt {w1 : Ws} (s : Step w w1) {b : Addr} {c : Cell} (len : w1.al.length = w1.st.length) (hb : w.H b = none) : Step w ⟨w1.st ++ [some c], w1.al ++ [b], w1.F, w1.H⟩ := by
  refine ⟨s.pre.trans (Pre.app _ _), s.le, s.frame, s.old, s.there, fun x ⟨i, l, e⟩ => ?_⟩
  have e' : (w1.al ++ [b])[i]? = some x := e
  rcases live_app l with z | z
  · rw [List.getElem?_append_left (by rw [len]; exact z.lt)] at e'
    exact s.news x ⟨i, z, e'⟩
  · rw [List.getElem?_append_right (by rw [len, z]; exact Nat.le_refl _), len, z, Nat.sub_self] at e'
    cases e'
    exact .inr hb
end
/-- what is handed back: plain data, or one new cell -/
def outB (d : D) (cs : Sto) (k : Nat) (st : Sto) : MM D := if pf d = true then ret d st else match d with
  | .ptr j => if k ≤ j then (match cs[j]? with
    | some (some c) => if pfC c = true then ret (.ptr st.length) (st ++ [some c]) else none
    | _ => none) else none
  | _ => none
def pfX (e : Exn) : Bool := pfs (e.fs.map (·.2))
def back0 (st : Sto) (m : MM D) : MM D := match m with
  | some (.ok d cs) => outB d cs 0 st
  | some (.exc e _) => if pfX e = true then some (.exc e st) else none
  | none => none
def back1 (i : Nat) (st : Sto) (m : MM D) : MM D := match m with
  | some (.ok d (some c :: cs)) => if pfC c = true then outB d (some c :: cs) 1 (st.set i (some c)) else none
  | some (.exc e (some c :: _)) => if pfC c = true ∧ pfX e = true then some (.exc e (st.set i (some c))) else none
  | _ => none
def callB (n : Nat) (m : List D → Sto → MM D) : List D → Sto → MM D := fun ds st => if ds.length = n then (match ds with
  | .ptr i :: r => (match st[i]? with
    | some (some c) => if pfs r = true ∧ pfC c = true then back1 i st (m (.ptr 0 :: r) [some c]) else none
    | _ => none)
  | ds => if pfs ds = true then back0 st (m ds []) else none) else none
section
variable {K : PySem.W.Frag} {E : XK} {w wc w' : Ws} {Q : VK}
/-- the value handed back, over the caller's world w1 -/
theorem post_out {d : D} {cs : Sto} {k : Nat} {w1 : Ws} {v : V} (h : Post K E (rD K) w (outB d cs k w1.st) Q) (o1 : Ok K w1) (s1 : Step w w1) (o' : Ok K w') (e' : w'.st = cs) (hF : w1.F = w'.F) (hH : w1.H = w'.H) (r : Rep K w'.F w'.al v d)
    (hn : ∀ (j : Nat) b, k ≤ j → Live w'.st j → w'.al[j]? = some b → w.H b = none ∧ ¬ Own w1 b) : Q v w'.H := by
  unfold outB at h
  by_cases p : pf d = true
  · rw [if_pos p] at h
    have q := h v w1 rfl o1 s1 (show Rep K w1.F w1.al v d by rw [hF]; exact r.any p)
    rw [hH] at q; exact q
  · rw [if_neg p] at h
    cases d with
    | ptr j =>
      obtain ⟨hk, h⟩ := post_ite h
      cases q : cs[j]? with
      | none => simp only [q] at h; exact h.elim
      | some oc =>
        cases oc with
        | none => simp only [q] at h; exact h.elim
        | some c =>
          simp only [q] at h
          obtain ⟨hc, h⟩ := post_ite h
          have q' : w'.st[j]? = some (some c) := by rw [e']; exact q
          obtain ⟨b, rfl, eb, fb, cb⟩ := cell_at o' r q'
          obtain ⟨nb, ob⟩ := hn j b hk ⟨c, q'⟩ eb
          have oo : Ok K ⟨w1.st ++ [some c], w1.al ++ [b], w1.F, w1.H⟩ := adopt o1 ob (by rw [hF]; exact fb) (by rw [hF, hH]; exact cb.any hc)
          have z := h (.ref b) _ rfl oo (step_adopt s1 o1.len nb) (.ptr (by
            show (w1.al ++ [b])[w1.st.length]? = some b
            rw [List.getElem?_append_right (by rw [o1.len]; exact Nat.le_refl _), o1.len, Nat.sub_self]; rfl))
          rw [← hH]; exact z
    | _ => exact h.elim
theorem RepX.to {e : Exn} {dd : Option Addr} {w1 : Ws} (hF : w1.F = w'.F) (hH : w1.H = w'.H) (p : pfX e = true) (r : RepX K w' e dd) : RepX K w1 e dd := by
  cases dd with
  | none => exact r
  | some d =>
    obtain ⟨vs, h1, h2, h3, h4⟩ := r
    exact ⟨vs, by rw [hH]; exact h1, by rw [hF]; exact h2, h3, by rw [hF]; exact h4.any p⟩
theorem callf_B {n : Nat} {m : List D → Sto → MM D} : CallF K E n m (callB n m) := fun w vs ds Q o r h => by
  obtain ⟨en, h⟩ := post_ite h
  have plain : (∀ i r, ds ≠ .ptr i :: r) → Post K E (rD K) w (if pfs ds = true then back0 w.st (m ds []) else none) Q → spM K n m vs w.H Q E := fun _ h => by
    obtain ⟨p, h⟩ := post_ite h
    refine ⟨⟨[], [], w.F, w.H⟩, ds, rfl, ⟨rfl, o.sub, fun i c z => by simp at z, fun i j a ⟨c, z⟩ => by simp at z⟩, r.any p, en, ?_⟩
    have nown : ∀ b, ¬ Own ⟨[], [], w.F, w.H⟩ b := fun b ⟨i, ⟨c, z⟩, _⟩ => by simp at z
    have co : ∀ w', Ok K w' → Step ⟨[], [], w.F, w.H⟩ w' → Ok K ⟨w.st, w.al, w'.F, w'.H⟩ ∧ Step w ⟨w.st, w.al, w'.F, w'.H⟩ := fun w' o' s =>
      core (wc := ⟨[], [], w.F, w.H⟩) o rfl rfl (fun b z => absurd z (nown b)) o' s w.st rfl (fun j l => l) (fun j b c _ _ z => absurd z (nown b)) (fun j b c z _ _ => z)
    match hm : m ds [], h with
    | none, h => exact h.elim
    | some (.ok d cs), h =>
      intro v w' e' o' s r'
      obtain ⟨o1, s1⟩ := co w' o' s
      refine post_out (w1 := ⟨w.st, w.al, w'.F, w'.H⟩) h o1 s1 o' e' rfl rfl r' fun j b _ l eb => ?_
      have hb : w.H b = none := (s.news b ⟨j, l, eb⟩).elim (fun z => absurd z (nown b)) id
      exact ⟨hb, fun ⟨i, li, ei⟩ => (o.own_H ⟨i, li, ei⟩).1 hb⟩
    | some (.exc x cs), h =>
      obtain ⟨px, h⟩ := post_ite (m := some (.exc x w.st)) h
      intro dd w' e' o' s rx
      obtain ⟨o1, s1⟩ := co w' o' s
      have z := h dd ⟨w.st, w.al, w'.F, w'.H⟩ rfl o1 s1 (RepX.to (w' := w') rfl rfl px rx)
      exact z
  match ds, plain with
  | [], plain => exact plain (fun _ _ z => nomatch z) h
  | .ptr i :: r0, _ =>
    have h : Post K E (rD K) w (match w.st[i]? with
      | some (some c) => if pfs r0 = true ∧ pfC c = true then back1 i w.st (m (.ptr 0 :: r0) [some c]) else none
      | _ => none) Q := h
    cases q : w.st[i]? with
    | none => simp only [q] at h; exact h.elim
    | some oc =>
      cases oc with
      | none => simp only [q] at h; exact h.elim
      | some c =>
        simp only [q] at h
        obtain ⟨⟨p1, p2⟩, h⟩ := post_ite h
        cases r with
        | cons rv rr =>
          obtain ⟨a, rfl, ea, fa, ca⟩ := cell_at o rv q
          have li : Live w.st i := ⟨c, q⟩
          have ow : ∀ b, Own ⟨[some c], [a], w.F, w.H⟩ b → b = a := fun b ⟨j, ⟨x, z⟩, e⟩ => by
            cases j with
            | zero => exact (Option.some.inj e).symm
            | succ j => simp at z
          have owa : Own ⟨[some c], [a], w.F, w.H⟩ a := ⟨0, ⟨c, rfl⟩, rfl⟩
          refine ⟨⟨[some c], [a], w.F, w.H⟩, .ptr 0 :: r0, rfl, ⟨rfl, o.sub, fun j x z => ?_, fun j k b lj lk _ _ => ?_⟩, .cons (.ptr rfl) (rr.any p1), en, ?_⟩
          · cases j with
            | zero =>
              have ex : c = x := by simpa using z
              subst ex
              exact ⟨a, rfl, fa, ca.any p2⟩
            | succ j => simp at z
          · have hj := lj.lt
            have hk := lk.lt
            simp at hj hk
            omega
          have co : ∀ w' c' cs, w'.st = some c' :: cs → pfC c' = true → Ok K w' → Step ⟨[some c], [a], w.F, w.H⟩ w' → Ok K ⟨w.st.set i (some c'), w.al, w'.F, w'.H⟩ ∧ Step w ⟨w.st.set i (some c'), w.al, w'.F, w'.H⟩ := fun w' c' cs e' pc o' s => by
            refine core (wc := ⟨[some c], [a], w.F, w.H⟩) o rfl rfl (fun b z => by rw [ow b z]; exact ⟨i, li, ea⟩) o' s _ (by rw [List.length_set]) (fun j l => live_set li l) (fun j b x z eb ob => ?_) (fun j b x z eb ob => ?_)
            · have eab := ow b ob
              subst eab
              have ej : i = j := by
                obtain ⟨cj, hj⟩ := live_set li ⟨x, z⟩
                exact o.inj i j b li ⟨cj, hj⟩ ea eb
              subst ej
              rw [List.getElem?_set_self li.lt] at z
              cases z
              obtain ⟨b', eb', fb', cb'⟩ := o'.own 0 c' (by rw [e']; rfl)
              have : b' = b := Option.some.inj (eb'.symm.trans (s.pre 0 b rfl))
              subst this
              exact ⟨fb', cb'.any pc⟩
            · have nij : i ≠ j := fun e => by
                subst e
                rw [ea] at eb; cases eb
                exact ob owa
              rw [List.getElem?_set_ne nij] at z
              exact z
          match hm : m (.ptr 0 :: r0) [some c], h with
          | none, h => exact h.elim
          | some (.ok d []), h => exact h.elim
          | some (.ok d (none :: cs)), h => exact h.elim
          | some (.ok d (some c' :: cs)), h =>
            obtain ⟨pc, h⟩ := post_ite (m := outB d (some c' :: cs) 1 (w.st.set i (some c'))) h
            intro v w' e' o' s r'
            obtain ⟨o1, s1⟩ := co w' c' cs e' pc o' s
            refine post_out (w1 := ⟨w.st.set i (some c'), w.al, w'.F, w'.H⟩) h o1 s1 o' e' rfl rfl r' fun j b hj l eb => ?_
            have nba : b ≠ a := fun e => by
              subst e
              have := o'.inj j 0 b l ⟨c', by rw [e']; rfl⟩ eb (s.pre 0 b rfl)
              omega
            have hb : w.H b = none := (s.news b ⟨j, l, eb⟩).elim (fun z => absurd (ow b z) nba) id
            exact ⟨hb, fun ⟨k, lk, ek⟩ => (o.own_H ⟨k, live_set li lk, ek⟩).1 hb⟩
          | some (.exc x []), h => exact h.elim
          | some (.exc x (none :: cs)), h => exact h.elim
          | some (.exc x (some c' :: cs)), h =>
            obtain ⟨⟨pc, px⟩, h⟩ := post_ite (m := some (.exc x (w.st.set i (some c')))) h
            intro dd w' e' o' s rx
            obtain ⟨o1, s1⟩ := co w' c' cs e' pc o' s
            have z := h dd ⟨w.st.set i (some c'), w.al, w'.F, w'.H⟩ rfl o1 s1 (RepX.to (w' := w') rfl rfl px rx)
            exact z
  | .non :: r0, plain => exact plain (fun _ _ z => nomatch z) h
  | .bl _ :: r0, plain => exact plain (fun _ _ z => nomatch z) h
  | .int _ :: r0, plain => exact plain (fun _ _ z => nomatch z) h
  | .str _ :: r0, plain => exact plain (fun _ _ z => nomatch z) h
  | .tup _ :: r0, plain => exact plain (fun _ _ z => nomatch z) h
  | .lst _ :: r0, plain => exact plain (fun _ _ z => nomatch z) h
  | .dct _ :: r0, plain => exact plain (fun _ _ z => nomatch z) h
  | .dcT _ :: r0, plain => exact plain (fun _ _ z => nomatch z) h
  | .scr _ :: r0, plain => exact plain (fun _ _ z => nomatch z) h
end
/-! ### calling a def -/
def mCall (c : List D → Sto → MM D) (f : FA) : FE := fun sl st => bnd (f sl st) fun ds st => c ds st
theorem me_call {X : Cx} {E : XK} {CX : CXT} {k n : Nat} {f : Addr} {fd : FuncData} {ps : List Str} {m c : List D → Sto → MM D} {fs : FA} {x : Str} {p pos : Pos} {e : Expr} {es : List Expr} (F : FnOk X.prog X.w X.K X.mg X.base CX k f fd ps (spM X.K n m)) (hc : CallF X.K E n m c) (hr : Room k X.A) (hm : X.mg x = some (.ref f))
    (hk : PySem.W.keepIn X.K (.ref f) = true) (hb : Binds X.K fd ps []) (hx : Passes CX X E) (ha : MA X E (e :: es) fs) (hg : Gl X x := by rfl) (hdb : (x == ("__debug__" : Str)) = false := by decide) (he : starEach (e :: es) X.env = (false, eval e X.env) :: starEach es X.env := by rfl)
    (hpl : (backTo pos (starEach es X.env)).any (·.1) = false := by rfl) : ME X E (.Call (.Name x p) (e :: es) [] pos) (mCall c fs) := by
  obtain ⟨t, p, q⟩ := ha.ex
  refine ⟨_, pe_call F hr hg hm hk hb .nil hx p hdb he hpl, fun sl σ w Q o s h => ?_⟩
  refine q sl σ w _ o s (post_bnd h fun vs ds w1 o1 s1 r hp => ?_)
  rw [List.append_nil]
  exact hc w1 vs ds Q o1 r hp
/-! ### a def by its body -/
def mDef (N n : Nat) (body : FS) : List D → Sto → MM D := fun ds st => bnd (body (ds.map some ++ List.replicate (N - n) none) st) fun f st => match f with
  | .nx _ => ret .non st
  | .rt d => ret d st
  | _ => none
theorem slots_start {K : PySem.W.Frag} {w : Ws} {N : List Str} {vs : List V} {ds : List D} (r : Reps K w.F w.al vs ds) : Slots K w (ds.map some ++ List.replicate (N.length - ds.length) none) (L2.start N vs) := by
  unfold L2.start
  rw [r.length]
  refine ⟨by simp [r.length], fun i d h => ?_⟩
  by_cases z : i < ds.length
  · rw [List.getElem?_append_left (by simpa using z), List.getElem?_map] at h
    cases q : ds[i]? with
    | none => rw [q] at h; cases h
    | some e =>
      rw [q] at h; cases h
      obtain ⟨v, e1, e2⟩ := r.get q
      refine ⟨v, ?_, e2⟩
      rw [List.getElem?_append_left (by simpa [r.length] using z), List.getElem?_map, e1]; rfl
  · rw [List.getElem?_append_right (by simpa using Nat.le_of_not_lt z), List.getElem?_replicate] at h
    split at h <;> cases h
theorem post_def {K : PySem.W.Frag} {E : XK} {t : TS} {g : FS} {N : List Str} {n : Nat} {vs : List V} {H : Hp} {Q : VK} (h : RefS K E t g) (hs : spM K n (mDef N.length n g) vs H Q E) : t { nx := fun _ H' => Q .non H', rt := Q } (L2.start N vs) H := by
  obtain ⟨w, ds, rfl, o, r, e, hp⟩ := hs
  subst e
  refine h _ _ w _ o (slots_start r) ?_
  unfold mDef at hp
  match hm : g (ds.map some ++ List.replicate (N.length - ds.length) none) w.st, hp with
  | none, hp => exact hp.elim
  | some (.ok (.nx sl) st), hp => exact fun w' e o' s σ _ => hp .non w' e o' s .non
  | some (.ok (.rt d) st), hp => exact fun w' e o' s v r => hp v w' e o' s r
  | some (.ok (.bk d) st), hp => exact hp.elim
  | some (.ok (.ct d) st), hp => exact hp.elim
  | some (.exc x st), hp => exact hp
/-- THE RULE for a def that raises nothing -/
theorem fn_m {P : Program} {w : World} {K : PySem.W.Frag} {mg : Str → Option Value} {base : Heap} {x qual : Str} {st : Stmt} {f : Addr} {fd : FuncData} {N ps : List Str} {k : Nat} {g : FS} (F : Fun K x qual st f fd) (S : FnScope N ps (defScope st))
    (hb : ∀ (cdv : Value) (A : Around) (outer : List Env) (s : Shared) (H : Hp) (E E' : XK), Room k (A.deeper (envOfC qual (defScope st) s.heap.objs.size f cdv)) → MSs (cxOf CX0 P w K mg base N qual (defScope st) f cdv A outer s H E).nox E' (defBody st) g) :
    FnOk P w K mg base CX0 (k + 1) f fd ps (spM K ps.length (mDef N.length ps.length g)) := by
  refine F.ok S (fun vs H Q E h => spM_len h) (fun cdv A outer s H vs Q E hr h => ?_)
  obtain ⟨t, p, q⟩ := (hb cdv A outer s H E E hr).ex
  exact ⟨t, p, post_def q h⟩
end M

namespace M
open PySem L2
section
variable {X : Cx} {E : XK} {K : PySem.W.Frag} {a b c e o : Expr} {es rest : List Expr} {fa fb fc : FE} {fs : FA} {ta tb tc : TE} {ts : TA} {pos apos cpos : Pos} {T id : String} {name : Str}
def tyOk (T : String) (st : Sto) : D → Bool
  | .str _ => T == "str"
  | .int _ => T == "int"
  | d => T == "list" && (lstOf st d).isSome
theorem tyOk_rep {w : Ws} (o : Ok K w) {v : V} {d : D} (r : Rep K w.F w.al v d) (h : tyOk T w.st d = true) : tyV K T v w.H := by
  have viaL : (T == "list" && (lstOf w.st d).isSome) = true → tyV K T v w.H := fun z => by
    rw [Bool.and_eq_true] at z
    obtain ⟨z1, z2⟩ := z
    obtain ⟨ds, e⟩ := Option.isSome_iff_exists.mp z2
    obtain ⟨p, xs, rfl, hx, _⟩ := lstOf_rep o r e
    exact .inl ⟨eq_of_beq z1, xs, hx⟩
  cases d with
  | str s => cases r; exact eq_of_beq h
  | int i => cases r; exact eq_of_beq h
  | _ => exact viaL h
def mBM0 (T : String) (g : Sto → D → List D → MM D) (f : FE) : FE := fun sl st => bnd (f sl st) fun x st => if tyOk T st x = true then g st x [] else none
def mBM (T : String) (g : Sto → D → List D → MM D) (f : FE) (h : FA) : FE := fun sl st => bnd (f sl st) fun x st => if tyOk T st x = true then bnd (h sl st) fun ds st => g st x ds else none
def RfM (K : PySem.W.Frag) (E : XK) (r : V → List V → Hp → VK → Prop) (g : Sto → D → List D → MM D) : Prop := ∀ x dx xs ds w (Q : VK), Ok K w → Rep K w.F w.al x dx → Reps K w.F w.al xs ds → Post K E (rD K) w (g w.st dx ds) Q → r x xs w.H Q
theorem me_bm0 {r : V → List V → Hp → VK → Prop} {g : Sto → D → List D → MM D} (pa : PlainAttrs T) (slot : Slot T name id) (hty : typeOf (.builtin id) = pure (.type "method_descriptor")) (hm : MtR X id r) (hr : RfM X.K E r g) (ho : ME X E o fa)
    (hbase : attributeBase o name X.env (eval o X.env) = eval o X.env := by rfl) (hline : (apos.endLine == cpos.line) = true := by rfl) : ME X E (.Call (.Attribute o name apos) [] [] cpos) (mBM0 T g fa) := by
  obtain ⟨t, p, q⟩ := ho.ex
  refine ⟨_, pe_bm0 pa slot hty hm p hbase hline, fun sl σ w Q o s h => ?_⟩
  refine q sl σ w _ o s (post_bnd h fun v d w1 o1 s1 r1 hp => ?_)
  obtain ⟨ht, hp⟩ := post_ite hp
  exact ⟨tyOk_rep o1 r1 ht, hr v d [] [] w1 Q o1 r1 .nil hp⟩
theorem me_bm {r : V → List V → Hp → VK → Prop} {g : Sto → D → List D → MM D} (pa : PlainAttrs T) (slot : Slot T name id) (hty : typeOf (.builtin id) = pure (.type "method_descriptor")) (hm : MtR X id r) (hr : RfM X.K E r g) (ho : ME X E o fa) (ha : MA X E (e :: es) fs)
    (hbase : attributeBase o name X.env (eval o X.env) = eval o X.env := by rfl)
    (hfew : ((backTo cpos (starEach (e :: es) X.env)).all (fun x => !x.1) && (backToKw cpos (keywordEach [] X.env)).all (fun x => x.1.isSome)
      && decide ((e :: es).length + ([] : List Keyword).length + (if ([] : List Keyword).isEmpty then 0 else 1) < 30)) = true := by rfl)
    (hline : (apos.endLine == cpos.line) = true := by rfl) (hs : starEach (e :: es) X.env = (false, eval e X.env) :: starEach es X.env := by rfl) (hplain : (backTo cpos (starEach es X.env)).any (·.1) = false := by rfl) : ME X E (.Call (.Attribute o name apos) (e :: es) [] cpos) (mBM T g fa fs) := by
  obtain ⟨t, p, q⟩ := ho.ex
  obtain ⟨t', p', q'⟩ := ha.ex
  refine ⟨_, pe_bm pa slot hty hm p p' hbase hfew hline hs hplain, fun sl σ w Q o s h => ?_⟩
  refine q sl σ w _ o s (post_bnd h fun v d w1 o1 s1 r1 hp => ?_)
  obtain ⟨ht, hp⟩ := post_ite hp
  refine ⟨tyOk_rep o1 r1 ht, q' sl σ w1 _ o1 (s.step s1) (post_bnd hp fun vs ds w2 o2 s2 r2 hp2 => ?_)⟩
  exact hr v d vs ds w2 Q o2 (r1.mono s2.le s2.pre) r2 hp2
/-! ### lists as cells -/
/-- a cell's list becomes es, d is handed back -/
def putL (i : Nat) (es : List D) (d : D) (st : Sto) : MM D := ret d (st.set i (some (.lst es)))
theorem post_putL {w : Ws} {i : Nat} {es ds : List D} {d : D} {v : V} {Q : VK} {p : Addr} {xs : List V} (ok : Ok K w) (hi : w.st[i]? = some (some (.lst ds))) (hp : w.al[i]? = some p) (h : Post K E (rD K) w (putL i es d w.st) Q) (rv : Rep K w.F w.al v d) (rs : Reps K w.F w.al xs es) : Q v (upd w.H p (.lst xs)) := by
  have l : Live w.st i := ⟨_, hi⟩
  exact h v (w.put i p (.lst xs) (.lst es)) rfl (ok_put ok l hp (.lst upd_same rs)) (step_put ok l hp _ _) rv
theorem cell_lst {w : Ws} (o : Ok K w) {v : V} {i : Nat} {ds : List D} (r : Rep K w.F w.al v (.ptr i)) (h : cellL w.st i = some ds) : ∃ a xs, v = .ref a ∧ w.al[i]? = some a ∧ w.st[i]? = some (some (.lst ds)) ∧ w.H a = some (.lst xs) ∧ Reps K w.F w.al xs ds := by
  obtain ⟨a, e, ea, _, ca⟩ := cell_at o r (cellL_some h)
  cases ca with
  | lst hx rs => exact ⟨a, _, e, ea, cellL_some h, hx, rs⟩
def gAppend (st : Sto) (x : D) (as : List D) : MM D := match x, as with
  | .ptr i, [y] => match cellL st i with
    | some ds => if ds.length < sizeLine then putL i (ds ++ [y]) .non st else none
    | none => none
  | _, _ => none
theorem rf_append : RfM K E rAppend gAppend := fun x dx xs ds w Q o rx rs h => by
  unfold gAppend at h
  split at h
  · rename_i i y
    cases q : cellL w.st i with
    | none => rw [q] at h; exact h.elim
    | some ds =>
      rw [q] at h
      obtain ⟨hl, h⟩ := post_ite h
      obtain ⟨a, ys, rfl, ea, es, hx, r⟩ := cell_lst o rx q
      obtain ⟨y', rfl, ry⟩ := rs.one_inv
      exact ⟨a, ys, y', rfl, rfl, hx, by rw [r.length]; exact hl, post_putL o es ea h .non (r.append (.cons ry .nil))⟩
  · exact h.elim
def gPop (st : Sto) (x : D) (as : List D) : MM D := match x, as with
  | .ptr i, [] => match cellL st i with
    | some ds => match ds[ds.length - 1]? with
      | some y => putL i ds.dropLast y st
      | none => none
    | none => none
  | _, _ => none
theorem Reps.dropLast {F : Hp} {α : List Addr} {vs : List V} {ds : List D} (r : Reps K F α vs ds) : Reps K F α vs.dropLast ds.dropLast := by
  rw [List.dropLast_eq_take, List.dropLast_eq_take, r.length]
  exact r.take _
theorem rf_pop : RfM K E rPop gPop := fun x dx xs ds w Q o rx rs h => by
  unfold gPop at h
  split at h
  · rename_i i
    cases q : cellL w.st i with
    | none => rw [q] at h; exact h.elim
    | some ds =>
      rw [q] at h
      obtain ⟨a, ys, rfl, ea, es, hx, r⟩ := cell_lst o rx q
      cases q2 : ds[ds.length - 1]? with
      | none => simp only [q2] at h; exact h.elim
      | some y =>
        simp only [q2] at h
        obtain ⟨v, e1, e2⟩ := r.get q2
        cases rs
        exact ⟨a, ys, v, rfl, rfl, hx, by rw [r.length]; exact e1, post_putL o es ea h e2 r.dropLast⟩
  · exact h.elim
def gReverse (st : Sto) (x : D) (as : List D) : MM D := match x, as with
  | .ptr i, [] => match cellL st i with
    | some ds => putL i ds.reverse .non st
    | none => none
  | _, _ => none
theorem rf_reverse : RfM K E rReverse gReverse := fun x dx xs ds w Q o rx rs h => by
  unfold gReverse at h
  split at h
  · rename_i i
    cases q : cellL w.st i with
    | none => rw [q] at h; exact h.elim
    | some ds =>
      rw [q] at h
      obtain ⟨a, ys, rfl, ea, es, hx, r⟩ := cell_lst o rx q
      cases rs
      exact ⟨a, ys, rfl, rfl, hx, post_putL o es ea h .non r.reverse⟩
  · exact h.elim
theorem me_append (ho : ME X E o fa) (ha : MA X E [e] fs) (hbase : attributeBase o "append" X.env (eval o X.env) = eval o X.env := by rfl)
    (hfew : ((backTo cpos (starEach [e] X.env)).all (fun x => !x.1) && (backToKw cpos (keywordEach [] X.env)).all (fun x => x.1.isSome)
      && decide ([e].length + ([] : List Keyword).length + (if ([] : List Keyword).isEmpty then 0 else 1) < 30)) = true := by rfl)
    (hline : (apos.endLine == cpos.line) = true := by rfl) (hs : starEach [e] X.env = (false, eval e X.env) :: starEach [] X.env := by rfl) (hplain : (backTo cpos (starEach [] X.env)).any (·.1) = false := by rfl) :
    ME X E (.Call (.Attribute o "append" apos) [e] [] cpos) (mBM "list" gAppend fa fs) := me_bm PySem.F.plainAttrs_list PySem.F.slot_list_append PySem.F.type_list_append mt_append rf_append ho ha hbase hfew hline hs hplain
theorem me_pop (ho : ME X E o fa) (hbase : attributeBase o "pop" X.env (eval o X.env) = eval o X.env := by rfl) (hline : (apos.endLine == cpos.line) = true := by rfl) : ME X E (.Call (.Attribute o "pop" apos) [] [] cpos) (mBM0 "list" gPop fa) :=
  me_bm0 PySem.F.plainAttrs_list PySem.F.slot_list_pop PySem.F.type_list_pop mt_pop rf_pop ho hbase hline
theorem me_reverse (ho : ME X E o fa) (hbase : attributeBase o "reverse" X.env (eval o X.env) = eval o X.env := by rfl) (hline : (apos.endLine == cpos.line) = true := by rfl) : ME X E (.Call (.Attribute o "reverse" apos) [] [] cpos) (mBM0 "list" gReverse fa) :=
  me_bm0 PySem.F.plainAttrs_list PySem.F.slot_list_reverse PySem.F.type_list_reverse mt_reverse rf_reverse ho hbase hline
/-! ### while -/
def whileN (c : FT) (body : FS) : Nat → Sl → Sto → MM Fl
  | 0, _, _ => none
  | n + 1, sl, st => bnd (c sl st) fun k st => cond k (bnd (body sl st) fun f st => match f with
      | .nx sl => whileN c body n sl st
      | .ct sl => whileN c body n sl st
      | .bk sl => ret (.nx sl) st
      | .rt d => ret (.rt d) st) (ret (.nx sl) st)
/-- n: more turns than there are -/
theorem ms_while (n : Nat) {body : List Stmt} {gc : FT} {gb : FS} (hp : PassesOwn (model X.prog X.w) X.A X.env X.xe) (hc : MT X E c gc) (hb : MSs X E body gb) : MS X E (.While c body [] pos) (whileN gc gb n) := by
  obtain ⟨t1, p1, q1⟩ := hc.ex
  obtain ⟨t2, p2, q2⟩ := hb.ex
  refine ⟨_, ps_while hp p1 p2, fun sl σ w D o s h => ?_⟩
  refine ⟨fun m σ H => ∃ w' sl', w'.H = H ∧ Ok X.K w' ∧ Step w w' ∧ Slots X.K w' sl' σ ∧ PostS X.K E w' (whileN gc gb m sl' w'.st) D, ⟨n, w, sl, rfl, o, Step.refl _, s, h⟩, fun m σ H ⟨w', sl', eH, o', st', sls, hW⟩ => ?_⟩
  subst eH
  cases m with
  | zero => exact hW.elim
  | succ m =>
    refine q1 sl' σ w' _ o' sls (post_bndS hW fun v x w1 o1 s1 r hp => ?_)
    have r : v = x := r
    subst r
    cases v with
    | false => exact (if_neg Bool.false_ne_true).mpr (postS_ret (E := E) o1 hp σ (sls.step s1))
    | true =>
      refine (if_pos rfl).mpr ?_
      refine ⟨fun σ2 H2 => ∃ w2 sl2, w2.H = H2 ∧ Ok X.K w2 ∧ Step w w2 ∧ Slots X.K w2 sl2 σ2 ∧ PostS X.K E w2 (whileN gc gb m sl2 w2.st) D, fun σ2 H2 z => ⟨m, Nat.lt_succ_self m, z⟩, ?_⟩
      refine q2 sl' σ w1 _ o1 (sls.step s1) (postS_bnd hp fun f w4 o4 s4 h4 => ?_)
      have s14 : Step w w4 := (st'.trans s1).trans s4
      cases f with
      | nx sl4 => exact fun σ4 z => ⟨w4, sl4, rfl, o4, s14, z, h4⟩
      | ct sl4 => exact fun σ4 z => ⟨w4, sl4, rfl, o4, s14, z, h4⟩
      | bk sl4 => exact fun σ4 z => postS_ret (E := E) o4 h4 σ4 z
      | rt d => exact fun v z => postS_ret (E := E) o4 h4 v z
/-! ### xs[i] = v -/
def gSet (fo fi : FE) (g : Sto → D → D → D → MM Unit) : FG := fun d sl st => bnd (fo sl st) fun x st => bnd (fi sl st) fun y st => bnd (g st x y d) fun _ st => ret sl st
def RfSet (K : PySem.W.Frag) (E : XK) (t : TSet) (g : Sto → D → D → D → MM Unit) : Prop := ∀ o i v dO di dv w (Q : Hp → Prop), Ok K w → Rep K w.F w.al o dO → Rep K w.F w.al i di → Rep K w.F w.al v dv → Post K E (fun _ (_ : Unit) (_ : Unit) => True) w (g w.st dO di dv) (fun _ H => Q H) → t o i v w.H Q
theorem mg_sub {i : Expr} {fo fi : FE} {t : TSet} {g : Sto → D → D → D → MM Unit} (ho : ME X E o fo) (hi : ME X E i fi) (hs : PSet X t) (hr : RfSet X.K E t g) (hpl : ∀ v, assign (.Subscript o i pos) X.env v = (do
      let ov ← holding [v] (eval o X.env)
      let iv ← holding [v, ov] (eval i X.env)
      standAt pos
      holding [v, ov, iv] (setItem ov iv v)
      release [v, ov, iv] []) := by intro _; rfl) : MG X E (.Subscript o i pos) (gSet fo fi g) := by
  obtain ⟨t1, p1, q1⟩ := ho.ex
  obtain ⟨t2, p2, q2⟩ := hi.ex
  refine ⟨_, pg_sub p1 p2 hs hpl, fun v d sl σ w Q o rv s h => ?_⟩
  refine q1 sl σ w _ o s (post_bnd h fun x dx w1 o1 s1 rx h1 => ?_)
  refine q2 sl σ w1 _ o1 (s.step s1) (post_bnd h1 fun y dy w2 o2 s2 ry h2 => ?_)
  refine hr x y v dx dy d w2 _ o2 (rx.mono s2.le s2.pre) ry ((rv.mono s1.le s1.pre).mono s2.le s2.pre) ?_
  exact post_bnd h2 fun _ _ w3 o3 s3 _ h3 => post_ret (rp := fun w σ sl => Slots X.K w sl σ) o3 (((s.step s1).step s2).step s3) h3
def gSetL (st : Sto) (x y v : D) : MM Unit := match x, y with
  | .ptr i, .int k => match cellL st i with
    | some ds => match ixN ds.length k with
      | some j => ret () (st.set i (some (.lst (ds.set j v))))
      | none => none
    | none => none
  | _, _ => none
theorem rf_setL : RfSet K E rSetL gSetL := fun x y v dx dy dv w Q o rx ry rv h => by
  unfold gSetL at h
  split at h
  · rename_i i k
    cases q : cellL w.st i with
    | none => rw [q] at h; exact h.elim
    | some ds =>
      rw [q] at h
      obtain ⟨a, ys, rfl, ea, es, hx, r⟩ := cell_lst o rx q
      cases q2 : ixN ds.length k with
      | none => simp only [q2] at h; exact h.elim
      | some j =>
        simp only [q2] at h
        have l : Live w.st i := ⟨_, es⟩
        exact ⟨a, ys, k, j, rfl, ry.int_inv, hx, by rw [r.length]; exact q2, h () (w.put i a (.lst (ys.set j v)) (.lst (ds.set j dv))) rfl (ok_put o l ea (.lst upd_same (r.set rv j))) (step_put o l ea _ _) trivial⟩
  · exact h.elim
end
end M

namespace M
open PySem PySem.Spec L2
/-! ### readings that a plain function fixes -/
def tE (K : PySem.W.Frag) (E : XK) (f : FE) : TE := fun σ H Q => ∃ sl w, w.H = H ∧ Ok K w ∧ Slots K w sl σ ∧ Post K E (rD K) w (f sl w.st) Q
def tT (K : PySem.W.Frag) (E : XK) (f : FT) : TT := fun σ H Q => ∃ sl w, w.H = H ∧ Ok K w ∧ Slots K w sl σ ∧ Post K E rB w (f sl w.st) Q
theorem ME.can {X : Cx} {E : XK} {e : Expr} {f : FE} (h : ME X E e f) : PE X e (tE X.K E f) := by
  obtain ⟨t, p, q⟩ := h.ex
  refine ⟨fun pins s σ H Q I h => p.run pins s σ H Q I ?_⟩
  obtain ⟨sl, w, rfl, o, ss, hp⟩ := h
  exact q sl σ w Q o ss hp
theorem MT.can {X : Cx} {E : XK} {e : Expr} {f : FT} (h : MT X E e f) : PT X e (tT X.K E f) := by
  obtain ⟨t, p, q⟩ := h.ex
  refine ⟨fun pins s σ H Q I h => p.run pins s σ H Q I ?_⟩
  obtain ⟨sl, w, rfl, o, ss, hp⟩ := h
  exact q sl σ w Q o ss hp
/-- a target that stores into the slots vs alone -/
def RfGW (K : PySem.W.Frag) (E : XK) (vs : List Nat) (t : TG) (g : FG) : Prop := ∀ v d sl σ w (Q : St → Hp → Prop), Ok K w → Rep K w.F w.al v d → Slots K w sl σ → Post K E (fun w σ' sl' => Slots K w sl' σ' ∧ wipe σ' vs = wipe σ vs) w (g d sl w.st) Q → t v σ w.H Q
def RfGWs (K : PySem.W.Frag) (E : XK) (vs : List Nat) (t : TGs) (g : FGs) : Prop := ∀ xs ds sl σ w (Q : St → Hp → Prop), Ok K w → Reps K w.F w.al xs ds → Slots K w sl σ → Post K E (fun w σ' sl' => Slots K w sl' σ' ∧ wipe σ' vs = wipe σ vs) w (g ds sl w.st) Q → t xs σ w.H Q
theorem wipe_set {v : Option V} {i : Nat} : ∀ {vs : List Nat} {σ : St}, i ∈ vs → wipe (σ.set i v) vs = wipe σ vs
  | [], _, h => by simp at h
  | j :: vs, σ, h => by
    show (wipe (σ.set i v) vs).set j none = (wipe σ vs).set j none
    by_cases z : i = j
    · subst z
      have : ∀ (vs : List Nat) (σ : St), (wipe (σ.set i v) vs).set i none = (wipe σ vs).set i none := by
        intro vs
        induction vs with
        | nil => intro σ; show (σ.set i v).set i none = σ.set i none; rw [List.set_set]
        | cons k r ih =>
          intro σ
          show ((wipe (σ.set i v) r).set k none).set i none = ((wipe σ r).set k none).set i none
          by_cases e : k = i
          · subst e; rw [List.set_set, List.set_set]; exact ih σ
          · rw [List.set_comm _ _ e, ih σ, List.set_comm _ _ e]
      exact this vs σ
    · rw [wipe_set (vs := vs) ((List.mem_cons.mp h).resolve_left z)]
section
variable {K : PySem.W.Frag} {E : XK} {vs : List Nat}
theorem rgw_name (i : Nat) (hv : i ∈ vs := by decide) : RfGW K E vs (gName i) (gNm i) := fun v d sl σ w Q o r s h => h (σ.set i (some v)) w rfl o (Step.refl w) ⟨s.set r, wipe_set hv⟩
theorem rgws_nil : RfGWs K E vs gNil gsNil := fun xs ds sl σ w Q o r s h => by
  cases r with
  | nil => exact ⟨rfl, h σ w rfl o (Step.refl w) ⟨s, rfl⟩⟩
  | cons _ _ => exact h.elim
theorem rgws_cons {t : TG} {u : TGs} {gt : FG} {gr : FGs} (h1 : RfGW K E vs t gt) (h2 : RfGWs K E vs u gr) : RfGWs K E vs (gCons t u) (gsCons gt gr) := fun xs ds sl σ w Q o r s h => by
  cases r with
  | nil => exact h.elim
  | cons r1 r2 =>
    refine ⟨_, _, rfl, h1 _ _ sl σ w _ o r1 s (post_bnd h fun σ' sl' w1 o1 s1 sl1 hp => ?_)⟩
    refine h2 _ _ sl' σ' w1 Q o1 (r2.mono s1.le s1.pre) sl1.1 ?_
    rw [sl1.2]; exact hp
theorem rgw_tup {u : TGs} {gr : FGs} {n : Nat} (h : RfGWs K E vs u gr) : RfGW K E vs (gTup K n u) (gTp n gr) := fun v d sl σ w Q o rv s hq => by
  cases d with
  | tup ds =>
    obtain ⟨hl, hq⟩ := post_ite (p := ds.length = n) hq
    obtain ⟨a, xs, rfl, f, rs⟩ := rv.tup_inv
    exact ⟨a, xs, rfl, SqT.of (o.sub _ _ f), by rw [rs.length]; exact hl, h xs ds sl σ w Q o rs s hq⟩
  | _ => exact hq.elim
end
/-! ### list comprehensions -/
def noX {τ : Type} (m : MM τ) : MM τ := match m with
  | some (.ok x st) => some (.ok x st)
  | _ => none
def wipeD (sl : Sl) : List Nat → Sl
  | [] => sl
  | v :: vs => (wipeD sl vs).set v none
def lcL (gt : FG) (tt : FT) (fe : FE) (sl : Sl) : List D → List D → Sto → MM (List D)
  | [], es, st => ret es st
  | d :: ds, es, st => bnd (gt d sl st) fun sl2 st => bnd (tt sl2 st) fun b st => cond b (bnd (fe sl2 st) fun y st => if es.length < sizeLine then lcL gt tt fe sl ds (es ++ [y]) st else none) (lcL gt tt fe sl ds es st)
def mLc (c : Bool) (it : FA) (gt : FG) (tt : FT) (fe : FE) (vs : List Nat) : FE := fun sl st => bnd (it sl st) fun ds st => bnd (noX (lcL gt tt fe (wipeD sl vs) ds [] st)) fun es st => mkL c es st
def tYesD : FT := fun _ st => ret true st
theorem slots_wipe {K : PySem.W.Frag} {w : Ws} {sl : Sl} {σ : St} (s : Slots K w sl σ) : ∀ vs : List Nat, Slots K w (wipeD sl vs) (wipe σ vs)
  | [] => s
  | v :: vs => by
    have ih := slots_wipe s vs
    refine ⟨by show ((wipe σ vs).set v none).length = ((wipeD sl vs).set v none).length; rw [List.length_set, List.length_set]; exact ih.len, fun i d h => ?_⟩
    have h' : ((wipeD sl vs).set v none)[i]? = some (some d) := h
    show ∃ x, ((wipe σ vs).set v none)[i]? = some (some x) ∧ _
    by_cases z : v = i
    · subst z
      by_cases q : v < (wipeD sl vs).length
      · rw [List.getElem?_set_self q] at h'; cases h'
      · rw [List.getElem?_eq_none (by rw [List.length_set]; omega)] at h'; cases h'
    · rw [List.getElem?_set_ne z] at h'
      rw [List.getElem?_set_ne z]
      exact ih.get i d h'
theorem not_own_new {K : PySem.W.Frag} {w : Ws} (o : Ok K w) {p : Addr} (h : w.H p = none) : ¬ Own w p := fun z => (o.own_H z).1 h
/-- a thing beside the world is written -/
def Ws.side (w : Ws) (p : Addr) (u : HO) : Ws := ⟨w.st, w.al, w.F, upd w.H p u⟩
theorem ok_side {K : PySem.W.Frag} {w : Ws} (o : Ok K w) {p : Addr} (hF : w.F p = none) (hO : ¬ Own w p) (u : HO) : Ok K (w.side p u) := by
  refine ⟨o.len, fun a x e => ?_, fun i c h => ?_, o.inj⟩
  · show upd w.H p u a = some x
    rw [upd_ne (ne_of_none e hF)]; exact o.sub _ _ e
  · obtain ⟨a, e, f, ca⟩ := o.own i c h
    have na : a ≠ p := fun z => hO ⟨i, ⟨c, h⟩, by rw [← z]; exact e⟩
    exact ⟨a, e, f, ca.mono (Le.refl _) (Pre.refl _) (show upd w.H p u a = w.H a from upd_ne na)⟩
theorem step_side {w0 w : Ws} (s : Step w0 w) {p : Addr} (h0 : w0.H p = none) (u : HO) : Step w0 (w.side p u) := by
  refine ⟨s.pre, s.le, fun b o e n => ?_, s.old, fun b e => ?_, s.news⟩
  · show upd w.H p u b = some o
    rw [upd_ne (ne_of_none e h0)]; exact s.frame b o e n
  · show upd w.H p u b ≠ none
    by_cases z : b = p
    · subst z; exact absurd h0 e
    · rw [upd_ne z]; exact s.there b e
theorem noX_ok {τ υ : Type} {K : PySem.W.Frag} {E : XK} {rp : Ws → υ → τ → Prop} {w : Ws} {m : MM τ} {Q : υ → Hp → Prop} (h : Post K E rp w (noX m) Q) : ∃ x st, m = some (.ok x st) ∧ ∀ (v : υ) (w' : Ws), w'.st = st → Ok K w' → Step w w' → rp w' v x → Q v w'.H := by
  match m, h with
  | some (.ok x st), h => exact ⟨x, st, rfl, h⟩
  | some (.exc _ _), h => exact h.elim
  | none, h => exact h.elim
theorem bnd_okI {τ υ : Type} {m : MM τ} {k : τ → Sto → MM υ} {y : υ} {st : Sto} (h : bnd m k = some (.ok y st)) : ∃ x st1, m = some (.ok x st1) ∧ k x st1 = some (.ok y st) := by
  match m, h with
  | some (.ok x st1), h => exact ⟨x, st1, rfl, h⟩
section
variable {X : Cx} {E : XK} {K : PySem.W.Frag}
/-- a run that ends well, as a Post whose error is never asked -/
theorem post_of_ok {τ υ : Type} {E' : XK} {rp : Ws → υ → τ → Prop} {w : Ws} {m : MM τ} {x : τ} {st : Sto} {Q : υ → Hp → Prop} (e : m = some (.ok x st)) (h : ∀ (v : υ) (w' : Ws), w'.st = st → Ok K w' → Step w w' → rp w' v x → Q v w'.H) : Post K E' rp w m Q := by
  subst e; exact h
theorem ref_lc {wi : TI} {g : TG} {tt : TT} {te : TE} {fi : FA} {gt : FG} {ft : FT} {fe : FE} {vs : List Nat} {E' : XK} (c : Bool)
    (hi : ∀ sl σ w (R : It → Hp → Prop), Ok K w → Slots K w sl σ → Post K E (fun w J ds => SeqIt K w J ds) w (fi sl w.st) R → wi σ w.H R)
    (hg : ∀ v d sl σ w (Q : St → Hp → Prop), Ok K w → Rep K w.F w.al v d → Slots K w sl σ → Post K E' (fun w σ' sl' => Slots K w sl' σ' ∧ wipe σ' vs = wipe σ vs) w (gt d sl w.st) Q → g v σ w.H Q)
    (ht : RefT K E' tt ft) (he : RefE K E' te fe) (hww : ∀ σ : St, wipe (wipe σ vs) vs = wipe σ vs) : RefE K E (tLc wi g tt te vs) (mLc c fi gt ft fe vs) := fun sl σ w Q o s h => by
  refine hi sl σ w _ o s (post_bnd h fun J ds w1 o1 s1 hJ hp => ?_)
  intro Da nD
  have hnx : ∃ es st, lcL gt ft fe (wipeD sl vs) ds [] w1.st = some (.ok es st) ∧ Post K E (rD K) w1 (mkL c es st) Q := by
    cases hm : lcL gt ft fe (wipeD sl vs) ds [] w1.st with
    | none => rw [hm] at hp; exact hp.elim
    | some r =>
      rw [hm] at hp
      cases r with
      | ok es st => exact ⟨es, st, rfl, hp⟩
      | exc _ _ => exact hp.elim
  obtain ⟨es, st, hrun, hfin⟩ := hnx
  refine ⟨fun i m H => i + m = ds.length ∧ ∃ w' es1 xs, w'.H = H ∧ Ok K w' ∧ Step w1 w' ∧ H Da = some (.lst xs) ∧ w'.F Da = none ∧ ¬ Own w' Da ∧ Reps K w'.F w'.al xs es1 ∧ lcL gt ft fe (wipeD sl vs) (ds.drop i) es1 w'.st = some (.ok es st),
    ⟨ds.length, by omega, w1.side Da (.lst []), [], [], rfl, ok_side o1 (o1.H_of_F nD) (not_own_new o1 nD) _, step_side (Step.refl _) nD _, upd_same, o1.H_of_F nD, not_own_new o1 nD, .nil, hrun⟩, fun i m H ⟨em, w', es1, xs, eH, o', st', hD, fD, oD, rs, hW⟩ => ?_⟩
  subst eH
  obtain ⟨hstop, hgo⟩ := hJ w' o' st'
  cases m with
  | zero =>
    have ei : i = ds.length := by omega
    subst ei
    rw [List.drop_length] at hW
    have e1 : es1 = es ∧ w'.st = st := by
      have q : some (R.ok es1 w'.st) = some (R.ok es st) := hW
      injection q with q
      injection q with q1 q2
      exact ⟨q1, q2⟩
    obtain ⟨rfl, rfl⟩ := e1
    refine .inl ⟨hstop, ?_⟩
    have hfin := Post.step st' hfin
    cases c with
    | true =>
      have oo : Ok K ⟨w'.st ++ [some (.lst es1)], w'.al ++ [Da], w'.F, w'.H⟩ := adopt o' oD fD (.lst hD (rs.mono (Le.refl _) (Pre.app _ _)))
      have s2 : Step w1 ⟨w'.st ++ [some (.lst es1)], w'.al ++ [Da], w'.F, w'.H⟩ := step_adopt st' o'.len nD
      have z : Post K E (rD K) w1 (mkL true es1 w'.st) Q := by assumption
      have q := z (.ref Da) ⟨w'.st ++ [some (.lst es1)], w'.al ++ [Da], w'.F, w'.H⟩ rfl oo s2 (.ptr (by
        show (w'.al ++ [Da])[w'.st.length]? = some Da
        rw [List.getElem?_append_right (by rw [o'.len]; exact Nat.le_refl _), o'.len, Nat.sub_self]; rfl))
      exact q
    | false =>
      have z : Post K E (rD K) w1 (mkL false es1 w'.st) Q := by assumption
      have hsub : ∀ a x, w'.F a = some x → upd w'.F Da (.lst xs) a = some x := fun a x e => by rw [upd_ne (ne_of_none e fD)]; exact e
      have oo : Ok K ⟨w'.st, w'.al, upd w'.F Da (.lst xs), w'.H⟩ := by
        refine ⟨o'.len, fun a x e => ?_, fun j cl h => ?_, o'.inj⟩
        · have e' : upd w'.F Da (.lst xs) a = some x := e
          by_cases q : a = Da
          · subst q; rw [upd_same] at e'; rw [← e']; exact hD
          · rw [upd_ne q] at e'; exact o'.sub _ _ e'
        · obtain ⟨a, e, f, ca⟩ := o'.own j cl h
          have na : a ≠ Da := fun z => oD ⟨j, ⟨cl, h⟩, by rw [← z]; exact e⟩
          exact ⟨a, e, (show upd w'.F Da _ a = none by rw [upd_ne na]; exact f), ca.mono (Le.of hsub) (Pre.refl _) rfl⟩
      have s2 : Step w1 ⟨w'.st, w'.al, upd w'.F Da (.lst xs), w'.H⟩ := by
        refine ⟨st'.pre, st'.le.trans (Le.of hsub), st'.frame, fun b e t n => ?_, st'.there, st'.news⟩
        have nb : b ≠ Da := fun q => e (by rw [q]; exact nD)
        show upd w'.F Da _ b = w1.F b
        rw [upd_ne nb]; exact st'.old b e t n
      have q := z (.ref Da) ⟨w'.st, w'.al, upd w'.F Da (.lst xs), w'.H⟩ rfl oo s2 (.lst (show upd w'.F Da _ Da = _ from upd_same) (rs.mono (Le.of hsub) (Pre.refl _)))
      exact q
  | succ m =>
    have hi' : i < ds.length := by omega
    have ed : ds[i]? = some ds[i] := List.getElem?_eq_getElem hi'
    obtain ⟨g1, g2⟩ := hgo i _ ed
    have side : ∀ w2 : Ws, Ok K w2 → Step w' w2 → w2.H Da = some (.lst xs) ∧ w2.F Da = none ∧ ¬ Own w2 Da := fun w2 o2 s2 => by
      have hne : w'.H Da ≠ none := by rw [hD]; exact Option.some_ne_none _
      exact ⟨s2.frame _ _ hD oD, (s2.old _ hne (fun ys z => by rw [hD] at z; cases z) oD).trans fD, fun z => (s2.news _ z).elim oD hne⟩
    refine .inr ⟨g1, fun H2 => ∃ w2 es2 ys, w2.H = H2 ∧ Ok K w2 ∧ Step w1 w2 ∧ H2 Da = some (.lst ys) ∧ w2.F Da = none ∧ ¬ Own w2 Da ∧ Reps K w2.F w2.al ys es2 ∧ lcL gt ft fe (wipeD sl vs) (ds.drop (i + 1)) es2 w2.st = some (.ok es st),
      fun H2 ⟨w2, es2, ys, h1, h2, h3, h4, h5, h6, h7, h8⟩ => ⟨m, by omega, by omega, w2, es2, ys, h1, h2, h3, h4, h5, h6, h7, h8⟩, fun x H' hy => ?_⟩
    obtain ⟨w2, rfl, est, o2, st2, rx⟩ := g2 x H' hy
    rw [List.drop_eq_getElem_cons hi'] at hW
    obtain ⟨sl2, sta, e1, hW⟩ := bnd_okI hW
    obtain ⟨b, stb, e2, hW⟩ := bnd_okI hW
    refine hg x ds[i] (wipeD sl vs) (wipe σ vs) w2 _ o2 rx ((slots_wipe ((s.step s1).step st') vs).step st2) (post_of_ok (by rw [est]; exact e1) fun σ3 w3 q3 o3 s3 r3 => ?_)
    refine ⟨by rw [r3.2]; exact hww σ, ?_⟩
    refine ht sl2 σ3 w3 _ o3 r3.1 (post_of_ok (by rw [q3]; exact e2) fun v w4 q4 o4 s4 r4 => ?_)
    have r4 : v = b := r4
    subst r4
    have st4 : Step w' w4 := (st2.trans s3).trans s4
    cases v with
    | false =>
      refine (if_neg Bool.false_ne_true).mpr ?_
      obtain ⟨a1, a2, a3⟩ := side w4 o4 st4
      exact ⟨w4, es1, xs, rfl, o4, st'.trans st4, a1, a2, a3, rs.mono st4.le st4.pre, by rw [q4]; exact hW⟩
    | true =>
      refine (if_pos rfl).mpr ?_
      obtain ⟨y, stc, e3, hW⟩ := bnd_okI hW
      have hl : es1.length < sizeLine := by
        by_cases z : es1.length < sizeLine
        · exact z
        · rw [if_neg z] at hW; cases hW
      rw [if_pos hl] at hW
      refine he sl2 σ3 w4 _ o4 (r3.1.step s4) (post_of_ok (by rw [q4]; exact e3) fun u w5 q5 o5 s5 r5 => ?_)
      have st5 : Step w' w5 := st4.trans s5
      obtain ⟨a1, a2, a3⟩ := side w5 o5 st5
      refine ⟨xs, a1, by rw [rs.length]; exact hl, w5.side Da (.lst (xs ++ [u])), es1 ++ [y], xs ++ [u], rfl, ok_side o5 a2 a3 _, step_side (st'.trans st5) nD _, upd_same, a2, a3, ?_, by show lcL _ _ _ _ _ _ w5.st = _; rw [q5]; exact hW⟩
      exact (rs.mono st5.le st5.pre).append (.cons r5 .nil)
end
section
variable {X : Cx} {E E' : XK} {elt tg iter c : Expr} {pos : Pos} {scope : Scope} {own : List (Str × Nat)} {fi : FA} {gt : FG} {ft : FT} {fe : FE} {g : TG}
theorem wipe_wipe (σ : St) (vs : List Nat) : wipe (wipe σ vs) vs = wipe σ vs := by
  have h : ∀ (us : List Nat), (∀ u ∈ us, u ∈ vs) → wipe (wipe σ us) vs = wipe σ vs := by
    intro us
    induction us with
    | nil => intro _; rfl
    | cons u r ih =>
      intro hu
      show wipe ((wipe σ r).set u none) vs = _
      rw [wipe_set (hu u List.mem_cons_self)]
      exact ih fun x hx => hu x (List.mem_cons_of_mem _ hx)
  exact h vs fun _ hx => hx
/-- [e for x in xs]; b: the result a cell -/
theorem me_lc (b : Bool) (hc : X.calm = true) (hN : X.N.Nodup) (hi : MI X E tg iter fi) (ok : BlkOk X.N X.env.scope scope own)
    (hg : ∀ (s : Shared) (H : Hp) (C : Addr) (cl : List (Str × Addr)) (fp : List Addr), PG (X.blk s H scope (compEnvC scope cl C X.env) fp) tg g) (hgr : RfGW X.K E' (own.map (·.2)) g gt)
    (he : ∀ (s : Shared) (H : Hp) (C : Addr) (cl : List (Str × Addr)) (fp : List Addr), ME (X.blk s H scope (compEnvC scope cl C X.env) fp) E' elt fe) (hs : ∀ x, foldedSetIterable iter X.env x = pure x := by intro _; rfl) :
    ME X E (.ListComp elt [⟨tg, iter, [], 0⟩] scope pos) (mLc b fi gt tYesD fe (own.map (·.2))) := by
  obtain ⟨wi, p, q⟩ := hi.ex
  refine ⟨_, pe_lc hc hN p ok hg (fun _ _ _ _ _ => pts_nil) (fun s H C cl fp => (show PE (X.blk s H scope (compEnvC scope cl C X.env) fp) elt (tE X.K E' fe) from (he s H C cl fp).can)) hs, ?_⟩
  refine ref_lc (E' := E') b q hgr (fun sl σ w Q o s h => post_ret o rfl h) (fun sl σ w Q o s h => ⟨sl, w, rfl, o, s, h⟩) fun σ => wipe_wipe σ _
/-- [e for x in xs if c] -/
theorem me_lcIf (b : Bool) (hc : X.calm = true) (hN : X.N.Nodup) (hi : MI X E tg iter fi) (ok : BlkOk X.N X.env.scope scope own)
    (hg : ∀ (s : Shared) (H : Hp) (C : Addr) (cl : List (Str × Addr)) (fp : List Addr), PG (X.blk s H scope (compEnvC scope cl C X.env) fp) tg g) (hgr : RfGW X.K E' (own.map (·.2)) g gt)
    (ht : ∀ (s : Shared) (H : Hp) (C : Addr) (cl : List (Str × Addr)) (fp : List Addr), MT (X.blk s H scope (compEnvC scope cl C X.env) fp) E' c ft)
    (he : ∀ (s : Shared) (H : Hp) (C : Addr) (cl : List (Str × Addr)) (fp : List Addr), ME (X.blk s H scope (compEnvC scope cl C X.env) fp) E' elt fe) (hs : ∀ x, foldedSetIterable iter X.env x = pure x := by intro _; rfl) :
    ME X E (.ListComp elt [⟨tg, iter, [c], 0⟩] scope pos) (mLc b fi gt ft fe (own.map (·.2))) := by
  obtain ⟨wi, p, q⟩ := hi.ex
  refine ⟨_, pe_lc hc hN p ok hg (fun s H C cl fp => pts_one (show PT (X.blk s H scope (compEnvC scope cl C X.env) fp) c (tT X.K E' ft) from (ht s H C cl fp).can)) (fun s H C cl fp => (show PE (X.blk s H scope (compEnvC scope cl C X.env) fp) elt (tE X.K E' fe) from (he s H C cl fp).can)) hs, ?_⟩
  refine ref_lc (E' := E') b q hgr (fun sl σ w Q o s h => ⟨sl, w, rfl, o, s, h⟩) (fun sl σ w Q o s h => ⟨sl, w, rfl, o, s, h⟩) fun σ => wipe_wipe σ _
end
end M

namespace M
open PySem L2
section
variable {κ : Type} [DecidableEq κ]
def lookD (kvs : List (κ × D)) (k : κ) : Option D := (kvs.find? fun kv => decide (kv.1 = k)).map (·.2)
def putD (kvs : List (κ × D)) (k : κ) (v : D) : List (κ × D) :=
  if (kvs.any fun kv => decide (kv.1 = k)) = true then kvs.map (fun kv => if kv.1 = k then (kv.1, v) else kv) else kvs ++ [(k, v)]
def dropD (kvs : List (κ × D)) (k : κ) : List (κ × D) := kvs.filter fun kv => decide (kv.1 ≠ k)
variable {K : PySem.W.Frag} {F : Hp} {α : List Addr}
theorem look_some {k : κ} {d : D} : ∀ {kvs : List (κ × V)} {ds : List (κ × D)}, kvs.map (·.1) = ds.map (·.1) → Reps K F α (kvs.map (·.2)) (ds.map (·.2)) → lookD ds k = some d → ∃ v, valV kvs k = some v ∧ Rep K F α v d
  | [], [], _, _, h => by cases h
  | [], _ :: _, e, _, _ => by cases e
  | _ :: _, [], e, _, _ => by cases e
  | (k1, v1) :: r, (k2, d2) :: q, e, rs, h => by
    injection e with e1 e2
    have e1 : k1 = k2 := e1
    subst e1
    cases rs with
    | cons r1 r2 =>
      by_cases z : k1 = k
      · unfold lookD at h
        rw [List.find?_cons_of_pos (by simp [z])] at h
        cases h
        exact ⟨v1, valV_pos z, r1⟩
      · unfold lookD at h
        rw [List.find?_cons_of_neg (by simp [z])] at h
        rw [valV_neg z]
        exact look_some e2 r2 h
theorem look_none {k : κ} : ∀ {kvs : List (κ × V)} {ds : List (κ × D)}, kvs.map (·.1) = ds.map (·.1) → lookD ds k = none → valV kvs k = none
  | [], [], _, h => rfl
  | [], _ :: _, e, _ => by cases e
  | _ :: _, [], e, _ => by cases e
  | (k1, v1) :: r, (k2, d2) :: q, e, h => by
    injection e with e1 e2
    have e1 : k1 = k2 := e1
    subst e1
    by_cases z : k1 = k
    · unfold lookD at h
      rw [List.find?_cons_of_pos (by simp [z])] at h
      cases h
    · unfold lookD at h
      rw [List.find?_cons_of_neg (by simp [z])] at h
      rw [valV_neg z]
      exact look_none e2 h
theorem look_is {k : κ} {kvs : List (κ × V)} {ds : List (κ × D)} (e : kvs.map (·.1) = ds.map (·.1)) (r : Reps K F α (kvs.map (·.2)) (ds.map (·.2))) : (valV kvs k).isSome = (lookD ds k).isSome := by
  cases h : lookD ds k with
  | none => rw [look_none e h]; rfl
  | some d => obtain ⟨v, hv, _⟩ := look_some e r h; rw [hv]; rfl
theorem any_key {k : κ} : ∀ {kvs : List (κ × V)} {ds : List (κ × D)}, kvs.map (·.1) = ds.map (·.1) → (kvs.any fun kv => decide (kv.1 = k)) = ds.any fun kv => decide (kv.1 = k)
  | [], [], _ => rfl
  | [], _ :: _, e => by cases e
  | _ :: _, [], e => by cases e
  | (k1, v1) :: r, (k2, d2) :: q, e => by
    injection e with e1 e2
    have e1 : k1 = k2 := e1
    subst e1
    rw [List.any_cons, List.any_cons, any_key e2]
theorem map_key {k : κ} {v : V} {d : D} (rv : Rep K F α v d) : ∀ {kvs : List (κ × V)} {ds : List (κ × D)}, kvs.map (·.1) = ds.map (·.1) → Reps K F α (kvs.map (·.2)) (ds.map (·.2)) →
    (kvs.map fun kv => if kv.1 = k then (kv.1, v) else kv).map (·.1) = (ds.map fun kv => if kv.1 = k then (kv.1, d) else kv).map (·.1) ∧ Reps K F α ((kvs.map fun kv => if kv.1 = k then (kv.1, v) else kv).map (·.2)) ((ds.map fun kv => if kv.1 = k then (kv.1, d) else kv).map (·.2))
  | [], [], _, _ => ⟨rfl, .nil⟩
  | [], _ :: _, e, _ => by cases e
  | _ :: _, [], e, _ => by cases e
  | (k1, v1) :: r, (k2, d2) :: q, e, rs => by
    injection e with e1 e2
    have e1 : k1 = k2 := e1
    subst e1
    cases rs with
    | cons r1 r2 =>
      obtain ⟨i1, i2⟩ := map_key rv e2 r2
      rw [List.map_cons, List.map_cons, List.map_cons, List.map_cons, List.map_cons, List.map_cons]
      by_cases z : k1 = k
      · simp only [z, if_true]
        exact ⟨congrArg _ i1, .cons rv i2⟩
      · simp only [z, if_false]
        exact ⟨congrArg _ i1, .cons r1 i2⟩
theorem put_rep {k : κ} {v : V} {d : D} (rv : Rep K F α v d) {kvs : List (κ × V)} {ds : List (κ × D)} (e : kvs.map (·.1) = ds.map (·.1)) (r : Reps K F α (kvs.map (·.2)) (ds.map (·.2))) :
    (putK kvs k v).map (·.1) = (putD ds k d).map (·.1) ∧ Reps K F α ((putK kvs k v).map (·.2)) ((putD ds k d).map (·.2)) := by
  unfold putK putD
  rw [any_key e]
  split
  · exact map_key rv e r
  · rw [List.map_append, List.map_append, List.map_append, List.map_append, e]
    exact ⟨rfl, r.append (.cons rv .nil)⟩
theorem len_key {kvs : List (κ × V)} {ds : List (κ × D)} (e : kvs.map (·.1) = ds.map (·.1)) : kvs.length = ds.length := by
  have := congrArg List.length e
  rwa [List.length_map, List.length_map] at this
theorem drop_rep {k : κ} : ∀ {kvs : List (κ × V)} {ds : List (κ × D)}, kvs.map (·.1) = ds.map (·.1) → Reps K F α (kvs.map (·.2)) (ds.map (·.2)) → (dropK kvs k).map (·.1) = (dropD ds k).map (·.1) ∧ Reps K F α ((dropK kvs k).map (·.2)) ((dropD ds k).map (·.2))
  | [], [], _, _ => ⟨rfl, .nil⟩
  | [], _ :: _, e, _ => by cases e
  | _ :: _, [], e, _ => by cases e
  | (k1, v1) :: r, (k2, d2) :: q, e, rs => by
    injection e with e1 e2
    have e1 : k1 = k2 := e1
    subst e1
    cases rs with
    | cons r1 r2 =>
      obtain ⟨i1, i2⟩ := drop_rep (k := k) e2 r2
      unfold dropK dropD at i1 i2 ⊢
      by_cases z : k1 = k
      · rw [List.filter_cons_of_neg (by simp [z]), List.filter_cons_of_neg (by simp [z])]
        exact ⟨i1, i2⟩
      · rw [List.filter_cons_of_pos (by simp [z]), List.filter_cons_of_pos (by simp [z])]
        exact ⟨congrArg _ i1, .cons r1 i2⟩
end
/-! ### dicts, still or cells -/
def cellK (st : Sto) (i : Nat) : Option (List (Key × D)) := match st[i]? with
  | some (some (.dct ds)) => some ds
  | _ => none
theorem cellK_some {st : Sto} {i : Nat} {ds : List (Key × D)} (h : cellK st i = some ds) : st[i]? = some (some (.dct ds)) := by
  unfold cellK at h
  split at h
  · rename_i e q; cases h; exact q
  · cases h
def cellT (st : Sto) (i : Nat) : Option (List (List Key × D)) := match st[i]? with
  | some (some (.dcT ds)) => some ds
  | _ => none
theorem cellT_some {st : Sto} {i : Nat} {ds : List (List Key × D)} (h : cellT st i = some ds) : st[i]? = some (some (.dcT ds)) := by
  unfold cellT at h
  split at h
  · rename_i e q; cases h; exact q
  · cases h
def dkOf (st : Sto) : D → Option (List (Key × D))
  | .dct ds => some ds
  | .ptr i => cellK st i
  | _ => none
def dtOf (st : Sto) : D → Option (List (List Key × D))
  | .dcT ds => some ds
  | .ptr i => cellT st i
  | _ => none
theorem dkOf_rep {K : PySem.W.Frag} {w : Ws} (o : Ok K w) {v : V} {d : D} {ds : List (Key × D)} (r : Rep K w.F w.al v d) (h : dkOf w.st d = some ds) : ∃ a kvs, v = .ref a ∧ Rd w.H a (.dK kvs) ∧ kvs.map (·.1) = ds.map (·.1) ∧ Reps K w.F w.al (kvs.map (·.2)) (ds.map (·.2)) := by
  cases d with
  | dct es =>
    obtain ⟨a, kvs, e, f, ek, rs⟩ := r.dct_inv
    cases h
    exact ⟨a, kvs, e, rd_of o.sub f, ek, rs⟩
  | ptr i =>
    obtain ⟨a, e, _, _, ca⟩ := cell_at o r (cellK_some h)
    cases ca with
    | dct hx ek rs => exact ⟨a, _, e, .inl hx, ek, rs⟩
  | _ => cases h
theorem dtOf_rep {K : PySem.W.Frag} {w : Ws} (o : Ok K w) {v : V} {d : D} {ds : List (List Key × D)} (r : Rep K w.F w.al v d) (h : dtOf w.st d = some ds) : ∃ a kvs, v = .ref a ∧ Rd w.H a (.dT kvs) ∧ kvs.map (·.1) = ds.map (·.1) ∧ Reps K w.F w.al (kvs.map (·.2)) (ds.map (·.2)) := by
  cases d with
  | dcT es =>
    obtain ⟨a, kvs, e, f, ek, rs⟩ := r.dcT_inv
    cases h
    exact ⟨a, kvs, e, rd_of o.sub f, ek, rs⟩
  | ptr i =>
    obtain ⟨a, e, _, _, ca⟩ := cell_at o r (cellT_some h)
    cases ca with
    | dcT hx ek rs => exact ⟨a, _, e, .inl hx, ek, rs⟩
  | _ => cases h
/-- a key -/
def keyOf : D → Option Key
  | .int i => some (.inl i)
  | .str s => some (.inr s)
  | _ => none
def keysOf : List D → Option (List Key)
  | [] => some []
  | d :: r => match keyOf d, keysOf r with
    | some k, some ks => some (k :: ks)
    | _, _ => none
theorem keyOf_rep {K : PySem.W.Frag} {F : Hp} {α : List Addr} {v : V} {d : D} {k : Key} (r : Rep K F α v d) (h : keyOf d = some k) : v = kV k := by
  cases d with
  | int i => cases h; exact r.int_inv
  | str i => cases h; exact r.str_inv
  | _ => cases h
theorem keysOf_rep {K : PySem.W.Frag} {F : Hp} {α : List Addr} : ∀ {vs : List V} {ds : List D} {ks : List Key}, Reps K F α vs ds → keysOf ds = some ks → vs = ks.map kV
  | _, _, _, .nil, h => by cases h; rfl
  | _, _, ks, .cons (v := v) (d := d) (vs := vs) (ds := ds) r rs, h => by
    have h : (match keyOf d, keysOf ds with
      | some k, some ks => some (k :: ks)
      | _, _ => none) = some ks := h
    cases q : keyOf d with
    | none => rw [q] at h; cases h
    | some k =>
      cases q2 : keysOf ds with
      | none => rw [q, q2] at h; cases h
      | some ks2 =>
        rw [q, q2] at h
        cases h
        rw [keyOf_rep r q, keysOf_rep rs q2]; rfl
/-- what a dict says of a key: not a dict or no key; not there; there -/
def dGet (st : Sto) (x y : D) : Option (Option D) := match y with
  | .tup ks => match dtOf st x, keysOf ks with
    | some ds, some k => some (lookD ds k)
    | _, _ => none
  | y => match dkOf st x, keyOf y with
    | some ds, some k => some (lookD ds k)
    | _, _ => none
theorem dGet_rep {K : PySem.W.Frag} {w : Ws} (o : Ok K w) {x y : V} {dx dy : D} {r : Option D} (rx : Rep K w.F w.al x dx) (ry : Rep K w.F w.al y dy) (h : dGet w.st dx dy = some r) :
    ∃ a rv, x = .ref a ∧ DGet w.H a y rv ∧ IsD w.H a ∧ rv.isSome = r.isSome ∧ ∀ d, r = some d → ∃ v, rv = some v ∧ Rep K w.F w.al v d := by
  have viaK : (match dkOf w.st dx, keyOf dy with
    | some ds, some k => some (lookD ds k)
    | _, _ => none) = some r → ∃ a rv, x = .ref a ∧ DGet w.H a y rv ∧ IsD w.H a ∧ rv.isSome = r.isSome ∧ ∀ d, r = some d → ∃ v, rv = some v ∧ Rep K w.F w.al v d := fun h => by
    cases q : dkOf w.st dx with
    | none => rw [q] at h; cases h
    | some ds =>
      cases q2 : keyOf dy with
      | none => rw [q, q2] at h; cases h
      | some k =>
        rw [q, q2] at h
        injection h with h
        obtain ⟨a, kvs, rfl, hr, ek, rs⟩ := dkOf_rep o rx q
        refine ⟨a, valV kvs k, rfl, .inl ⟨kvs, k, hr, keyOf_rep ry q2, rfl⟩, .inl ⟨kvs, hr⟩, by rw [look_is ek rs, h], fun d e => ?_⟩
        rw [e] at h
        exact look_some ek rs h
  cases dy with
  | tup ks =>
    have h : (match dtOf w.st dx, keysOf ks with
      | some ds, some k => some (lookD ds k)
      | _, _ => none) = some r := h
    cases q : dtOf w.st dx with
    | none => rw [q] at h; cases h
    | some ds =>
      cases q2 : keysOf ks with
      | none => rw [q, q2] at h; cases h
      | some k =>
        rw [q, q2] at h
        injection h with h
        obtain ⟨a, kvs, rfl, hr, ek, rs⟩ := dtOf_rep o rx q
        obtain ⟨b, xs, rfl, hb, rxs⟩ := ry.tup_inv
        refine ⟨a, valV kvs k, rfl, .inr ⟨kvs, k, b, hr, rfl, by rw [← keysOf_rep rxs q2]; exact o.sub _ _ hb, rfl⟩, .inr ⟨kvs, hr⟩, by rw [look_is ek rs, h], fun d e => ?_⟩
        rw [e] at h
        exact look_some ek rs h
  | int i => exact viaK h
  | str i => exact viaK h
  | _ => exact viaK h
section
variable {X : Cx} {E : XK} {K : PySem.W.Frag} {a b c e o i : Expr} {es rest : List Expr} {fa fb fc fi : FE} {fs : FA} {ta tb tc : TE} {pos apos cpos : Pos}
def mDGet (fo fi : FE) : FE := fun sl st => bnd (fo sl st) fun x st => bnd (fi sl st) fun y st => match dGet st x y with
  | some (some d) => ret d st
  | _ => none
theorem me_dget (hu : X.A.units + 1 < cLine) (ho : ME X E o fa) (hi : ME X E i fi) (hs : NoSl i := by exact fun _ _ => rfl) : ME X E (.Subscript o i pos) (mDGet fa fi) := by
  obtain ⟨t, p, q⟩ := ho.ex
  obtain ⟨t', p', q'⟩ := hi.ex
  refine ⟨_, pe_dget hu p p' hs, fun sl σ w Q o s h => ?_⟩
  refine q sl σ w _ o s (post_bnd h fun x dx w1 o1 s1 rx h1 => ?_)
  refine q' sl σ w1 _ o1 (s.step s1) (post_bnd h1 fun y dy w2 o2 s2 ry h2 => ?_)
  have rx := rx.mono s2.le s2.pre
  cases g : dGet w2.st dx dy with
  | none => simp only [g] at h2; exact h2.elim
  | some r =>
    cases r with
    | none => simp only [g] at h2; exact h2.elim
    | some d =>
      simp only [g] at h2
      obtain ⟨a, rv, rfl, hg, _, _, hd⟩ := dGet_rep o2 rx ry g
      obtain ⟨v, rfl, rv⟩ := hd d rfl
      exact ⟨a, v, rfl, hg, post_ret o2 rv h2⟩
def mDIn (n : Bool) (fi fo : FE) : FE := fun sl st => bnd (fi sl st) fun y st => bnd (fo sl st) fun x st => match dGet st x y with
  | some r => ret (.bl (if n then !r.isSome else r.isSome)) st
  | none => none
theorem ref_din (hi : RefE K E tb fi) (ho : RefE K E ta fa) : RefE K E (tDIn tb ta) (mDIn false fi fa) := fun sl σ w Q o s h => by
  refine hi sl σ w _ o s (post_bnd h fun y dy w1 o1 s1 ry h1 => ?_)
  refine ho sl σ w1 _ o1 (s.step s1) (post_bnd h1 fun x dx w2 o2 s2 rx h2 => ?_)
  have ry := ry.mono s2.le s2.pre
  cases g : dGet w2.st dx dy with
  | none => simp only [g] at h2; exact h2.elim
  | some r =>
    simp only [g] at h2
    obtain ⟨a, rv, rfl, hg, _, e, _⟩ := dGet_rep o2 rx ry g
    exact ⟨a, rv, rfl, hg, by rw [e]; exact post_ret o2 (.bl _) h2⟩
theorem ref_dnotin (hi : RefE K E tb fi) (ho : RefE K E ta fa) : RefE K E (tDNotIn tb ta) (mDIn true fi fa) := fun sl σ w Q o s h => by
  refine hi sl σ w _ o s (post_bnd h fun y dy w1 o1 s1 ry h1 => ?_)
  refine ho sl σ w1 _ o1 (s.step s1) (post_bnd h1 fun x dx w2 o2 s2 rx h2 => ?_)
  have ry := ry.mono s2.le s2.pre
  cases g : dGet w2.st dx dy with
  | none => simp only [g] at h2; exact h2.elim
  | some r =>
    simp only [g] at h2
    obtain ⟨a, rv, rfl, hg, _, e, _⟩ := dGet_rep o2 rx ry g
    exact ⟨a, rv, rfl, hg, by rw [e]; exact post_ret o2 (.bl _) h2⟩
theorem me_din (hu : X.A.units + 1 < cLine) (hi : ME X E i fi) (ho : ME X E o fa) (h1 : behindInMarks .In o = false := by rfl) : ME X E (.Compare i [.In] [o] pos) (mDIn false fi fa) := by
  obtain ⟨t, p, q⟩ := ho.ex
  obtain ⟨t', p', q'⟩ := hi.ex
  exact ⟨_, pe_cmp (pc_din hu p' p) h1, ref_din q' q⟩
theorem me_dnotin (hu : X.A.units + 1 < cLine) (hi : ME X E i fi) (ho : ME X E o fa) (h1 : behindInMarks .NotIn o = false := by rfl) : ME X E (.Compare i [.NotIn] [o] pos) (mDIn true fi fa) := by
  obtain ⟨t, p, q⟩ := ho.ex
  obtain ⟨t', p', q'⟩ := hi.ex
  exact ⟨_, pe_cmp (pc_dnotin hu p' p) h1, ref_dnotin q' q⟩
theorem mt_din (hu : X.A.units + 1 < cLine) (hi : ME X E i fi) (ho : ME X E o fa) (h1 : behindInMarks .In o = false := by rfl) : MT X E (.Compare i [.In] [o] pos) (mB (mDIn false fi fa)) := by
  obtain ⟨t, p, q⟩ := ho.ex
  obtain ⟨t', p', q'⟩ := hi.ex
  exact ⟨_, pt_cmp (pc_din hu p' p) h1, ref_B (ref_din q' q)⟩
theorem mt_dnotin (hu : X.A.units + 1 < cLine) (hi : ME X E i fi) (ho : ME X E o fa) (h1 : behindInMarks .NotIn o = false := by rfl) : MT X E (.Compare i [.NotIn] [o] pos) (mB (mDIn true fi fa)) := by
  obtain ⟨t, p, q⟩ := ho.ex
  obtain ⟨t', p', q'⟩ := hi.ex
  exact ⟨_, pt_cmp (pc_dnotin hu p' p) h1, ref_B (ref_dnotin q' q)⟩
/-- d.get(k, x) -/
def mDGet2 (fo fi fx : FE) : FE := fun sl st => bnd (fo sl st) fun x st => cond (isDct st x) (bnd (fi sl st) fun y st => bnd (fx sl st) fun z st => match dGet st x y with
    | some r => ret (r.getD z) st
    | none => none) none
where isDct (st : Sto) (x : D) : Bool := (dkOf st x).isSome || (dtOf st x).isSome
theorem isDct_rep {w : Ws} (o : Ok K w) {v : V} {d : D} (r : Rep K w.F w.al v d) (h : mDGet2.isDct w.st d = true) : ∃ a, v = .ref a ∧ IsD w.H a := by
  unfold mDGet2.isDct at h
  rw [Bool.or_eq_true] at h
  rcases h with h | h
  · obtain ⟨ds, e⟩ := Option.isSome_iff_exists.mp h
    obtain ⟨a, kvs, rfl, hr, _⟩ := dkOf_rep o r e
    exact ⟨a, rfl, .inl ⟨kvs, hr⟩⟩
  · obtain ⟨ds, e⟩ := Option.isSome_iff_exists.mp h
    obtain ⟨a, kvs, rfl, hr, _⟩ := dtOf_rep o r e
    exact ⟨a, rfl, .inr ⟨kvs, hr⟩⟩
theorem me_dget2 (hu : X.A.units + 1 < cLine) (ho : ME X E o fa) (hi : ME X E i fi) (hx : ME X E b fb) (m : M2 X o "get" apos i b cpos) : ME X E (.Call (.Attribute o "get" apos) [i, b] [] cpos) (mDGet2 fa fi fb) := by
  obtain ⟨t, p, q⟩ := ho.ex
  obtain ⟨t', p', q'⟩ := hi.ex
  obtain ⟨t2, p2, q2⟩ := hx.ex
  refine ⟨_, pe_dget2 hu p p' p2 m, fun sl σ w Q o s h => ?_⟩
  refine q sl σ w _ o s (post_bnd h fun x dx w1 o1 s1 rx h1 => ?_)
  cases hd : mDGet2.isDct w1.st dx with
  | false => simp only [hd] at h1; exact h1.elim
  | true =>
    simp only [hd] at h1
    obtain ⟨a0, rfl, isd⟩ := isDct_rep o1 rx hd
    refine ⟨a0, rfl, isd, ?_⟩
    refine q' sl σ w1 _ o1 (s.step s1) (post_bnd h1 fun y dy w2 o2 s2 ry h2 => ?_)
    refine q2 sl σ w2 _ o2 ((s.step s1).step s2) (post_bnd h2 fun z dz w3 o3 s3 rz h3 => ?_)
    have rx := (rx.mono s2.le s2.pre).mono s3.le s3.pre
    have ry := ry.mono s3.le s3.pre
    cases g : dGet w3.st dx dy with
    | none => simp only [g] at h3; exact h3.elim
    | some r =>
      simp only [g] at h3
      obtain ⟨a, rv, ea, hg, _, e, hd⟩ := dGet_rep o3 rx ry g
      cases ea
      refine ⟨rv, hg, ?_⟩
      cases r with
      | none =>
        cases rv with
        | none => exact post_ret o3 rz h3
        | some v => cases e
      | some d =>
        obtain ⟨v, rfl, rv⟩ := hd d rfl
        exact post_ret o3 rv h3
/-- {}: keys K (ints, texts) or T (tuples); a cell -/
def mDNewK : FE := fun _ st => ret (.ptr st.length) (st ++ [some (.dct [])])
def mDNewT : FE := fun _ st => ret (.ptr st.length) (st ++ [some (.dcT [])])
theorem ptr_new {w : Ws} (o : Ok K w) (p : Addr) (u : HO) (c : Cell) : Rep K (w.newC p u c).F (w.newC p u c).al (.ref p) (.ptr w.st.length) := .ptr (by
  show (w.al ++ [p])[w.st.length]? = some p
  rw [List.getElem?_append_right (by rw [o.len]; exact Nat.le_refl _), o.len, Nat.sub_self]; rfl)
theorem me_dnewK : ME X E (.Dict [] [] pos) mDNewK := ⟨_, pe_dnewK, fun sl σ w Q o s h p hp => h (.ref p) (w.newC p (.dK []) (.dct [])) rfl (ok_newC o hp (.dct upd_same rfl .nil)) (step_newC o hp _ _) (ptr_new o _ _ _)⟩
theorem me_dnewT : ME X E (.Dict [] [] pos) mDNewT := ⟨_, pe_dnewT, fun sl σ w Q o s h p hp => h (.ref p) (w.newC p (.dT []) (.dcT [])) rfl (ok_newC o hp (.dcT upd_same rfl .nil)) (step_newC o hp _ _) (ptr_new o _ _ _)⟩
/-- d[k] = v -/
def dPut (st : Sto) (x y v : D) : Option Sto := match x with
  | .ptr i => match y with
    | .tup ks => match cellT st i, keysOf ks with
      | some ds, some k => if ds.length < sizeLine then some (st.set i (some (.dcT (putD ds k v)))) else none
      | _, _ => none
    | y => match cellK st i, keyOf y with
      | some ds, some k => if ds.length < sizeLine then some (st.set i (some (.dct (putD ds k v)))) else none
      | _, _ => none
  | _ => none
def sDPut (fo fi fv : FE) : FS := fun sl st => bnd (fv sl st) fun v st => bnd (fo sl st) fun x st => bnd (fi sl st) fun y st => match dPut st x y v with
  | some st => ret (.nx sl) st
  | none => none
theorem dPut_rep {w : Ws} (o : Ok K w) {x y v : V} {dx dy dv : D} {st : Sto} (rx : Rep K w.F w.al x dx) (ry : Rep K w.F w.al y dy) (rv : Rep K w.F w.al v dv) (h : dPut w.st dx dy dv = some st) : ∃ a w1, x = .ref a ∧ DPut w.H a y v w1.H ∧ w1.st = st ∧ Ok K w1 ∧ Step w w1 := by
  cases dx with
  | ptr i =>
    have viaK : (match cellK w.st i, keyOf dy with
      | some ds, some k => if ds.length < sizeLine then some (w.st.set i (some (.dct (putD ds k dv)))) else none
      | _, _ => none) = some st → ∃ a w1, x = .ref a ∧ DPut w.H a y v w1.H ∧ w1.st = st ∧ Ok K w1 ∧ Step w w1 := fun h => by
      cases q : cellK w.st i with
      | none => rw [q] at h; cases h
      | some ds =>
        cases q2 : keyOf dy with
        | none => rw [q, q2] at h; cases h
        | some k =>
          simp only [q, q2] at h
          by_cases hl : ds.length < sizeLine
          · rw [if_pos hl] at h
            injection h with h
            obtain ⟨a, rfl, ea, _, ca⟩ := cell_at o rx (cellK_some q)
            have l : Live w.st i := ⟨_, cellK_some q⟩
            cases ca with
            | @dct kvs _ hx ek rs =>
              obtain ⟨p1, p2⟩ := put_rep (k := k) rv ek rs
              exact ⟨a, w.put i a (.dK (putK kvs k v)) (.dct (putD ds k dv)), rfl, .inl ⟨kvs, k, hx, keyOf_rep ry q2, by rw [len_key ek]; exact hl, rfl⟩, h, ok_put o l ea (.dct upd_same p1 p2), step_put o l ea _ _⟩
          · rw [if_neg hl] at h; cases h
    cases dy with
    | tup ks =>
      have h : (match cellT w.st i, keysOf ks with
        | some ds, some k => if ds.length < sizeLine then some (w.st.set i (some (.dcT (putD ds k dv)))) else none
        | _, _ => none) = some st := h
      cases q : cellT w.st i with
      | none => rw [q] at h; cases h
      | some ds =>
        cases q2 : keysOf ks with
        | none => rw [q, q2] at h; cases h
        | some k =>
          simp only [q, q2] at h
          by_cases hl : ds.length < sizeLine
          · rw [if_pos hl] at h
            injection h with h
            obtain ⟨a, rfl, ea, _, ca⟩ := cell_at o rx (cellT_some q)
            obtain ⟨b, xs, rfl, hb, rxs⟩ := ry.tup_inv
            have l : Live w.st i := ⟨_, cellT_some q⟩
            cases ca with
            | @dcT kvs _ hx ek rs =>
              obtain ⟨p1, p2⟩ := put_rep (k := k) rv ek rs
              exact ⟨a, w.put i a (.dT (putK kvs k v)) (.dcT (putD ds k dv)), rfl, .inr ⟨kvs, k, b, hx, rfl, by rw [← keysOf_rep rxs q2]; exact o.sub _ _ hb, by rw [len_key ek]; exact hl, rfl⟩, h, ok_put o l ea (.dcT upd_same p1 p2), step_put o l ea _ _⟩
          · rw [if_neg hl] at h; cases h
    | _ => exact viaK h
  | _ => cases h
theorem ms_dput {pos' : Pos} (hu : X.A.units + 1 < cLine) (ho : ME X E o fa) (hi : ME X E i fi) (hv : ME X E b fb) (hs : swapsWith b (some (.Subscript o i pos')) pos.line X.env = pure false := by rfl) : MS X E (.Assign [.Subscript o i pos'] b pos) (sDPut fa fi fb) := by
  obtain ⟨t, p, q⟩ := ho.ex
  obtain ⟨t', p', q'⟩ := hi.ex
  obtain ⟨t2, p2, q2⟩ := hv.ex
  refine ⟨_, ps_dput hu p p' p2 hs, fun sl σ w Q o s h => ?_⟩
  refine q2 sl σ w _ o s (post_bndS h fun v dv w1 o1 s1 rv h1 => ?_)
  refine q sl σ w1 _ o1 (s.step s1) (post_bndS h1 fun x dx w2 o2 s2 rx h2 => ?_)
  refine q' sl σ w2 _ o2 ((s.step s1).step s2) (post_bndS h2 fun y dy w3 o3 s3 ry h3 => ?_)
  have rx := rx.mono s3.le s3.pre
  have rv := (rv.mono s2.le s2.pre).mono s3.le s3.pre
  cases g : dPut w3.st dx dy dv with
  | none => simp only [g] at h3; exact h3.elim
  | some st =>
    simp only [g] at h3
    obtain ⟨a, w4, rfl, hp, e4, o4, s4⟩ := dPut_rep o3 rx ry rv g
    refine ⟨a, w4.H, rfl, hp, ?_⟩
    have h4 := PostS.step s4 h3
    rw [← e4] at h4
    exact postS_ret o4 h4 σ ((((s.step s1).step s2).step s3).step s4)
end
end M

namespace M
open PySem PySem.Spec L2
section
variable {X : Cx} {E : XK} {K : PySem.W.Frag} {a b c e o i : Expr} {es rest : List Expr} {fa fb fc fi : FE} {fs : FA} {ta tb tc : TE} {pos apos cpos p : Pos}
theorem me_gI {x : Str} {v : Int} (h : ∃ t, X.mg x = some (.int v t)) (hg : Gl X x := by rfl) (hd : (x == ("__debug__" : Str)) = false := by decide) : ME X E (.Name x pos) (mC (.int v)) := let ⟨_, e⟩ := h; me_globI hg e ⟨_, rfl⟩ hd
theorem me_gS {x : Str} {v : Str} (h : ∃ t, X.mg x = some (.str v t)) (hg : Gl X x := by rfl) (hd : (x == ("__debug__" : Str)) = false := by decide) : ME X E (.Name x pos) (mC (.str v)) := let ⟨_, e⟩ := h; me_globS hg e ⟨_, rfl⟩ hd
/-- a def of the text as a caller has it -/
structure Cal (P : Program) (w : World) (K : PySem.W.Frag) (mg : Str → Option Value) (base : Heap) (k : Nat) (x : Str) (ps : List Str) (m : List D → Sto → MM D) : Prop where
  ex : ∃ (f : Addr) (fd : FuncData), FnOk P w K mg base CX0 k f fd ps (spM K ps.length m) ∧ mg x = some (.ref f) ∧ PySem.W.keepIn K (.ref f) = true ∧ Binds K fd ps []
theorem me_cal {k : Nat} {x : Str} {ps : List Str} {m c : List D → Sto → MM D} (C : Cal X.prog X.w X.K X.mg X.base k x ps m) (hc : CallF X.K E ps.length m c) (hr : Room k X.A) (ha : MA X E (e :: es) fs) (hg : Gl X x := by rfl) (hdb : (x == ("__debug__" : Str)) = false := by decide)
    (he : starEach (e :: es) X.env = (false, eval e X.env) :: starEach es X.env := by rfl) (hpl : (backTo pos (starEach es X.env)).any (·.1) = false := by rfl) : ME X E (.Call (.Name x p) (e :: es) [] pos) (mCall c fs) := by
  obtain ⟨f, fd, F, h1, h2, h3⟩ := C.ex
  exact me_call F hc hr h1 h2 h3 (fun _ _ _ _ _ _ _ h => h.elim) ha hg hdb he hpl
/-- what promises nothing -/
theorem fn_none {P : Program} {w : World} {K : PySem.W.Frag} {mg : Str → Option Value} {base : Heap} {k : Nat} {f : Addr} {fd : FuncData} {ps : List Str} : FnOk P w K mg base CX0 k f fd ps (spM K ps.length fun _ _ => none) :=
  ⟨fun _ _ _ _ h => spM_len h, fun _ _ _ _ _ _ _ _ _ _ _ _ _ ⟨_, _, _, _, _, _, h⟩ => h.elim⟩
/-- what may be walked by a for: a list, a tuple, a text -/
def iAny (f : FE) : FA := fun sl st => bnd (f sl st) fun d st => match d with
  | .str x => ret (chrD x) st
  | .tup ds => ret ds st
  | d => match seqOf d with
    | some ds => ret ds st
    | none => none
theorem PI.or {X : Cx} {tg e : Expr} {w1 w2 : TI} (h1 : PI X tg e w1) (h2 : PI X tg e w2) : PI X tg e (fun σ H R => w1 σ H R ∨ w2 σ H R) := ⟨fun pins s σ H R I h => h.elim (h1.run pins s σ H R I) (h2.run pins s σ H R I)⟩
theorem mi_any {tg : Expr} (h : ME X E e fa) : MI X E tg e (iAny fa) := by
  obtain ⟨t1, p1, q1⟩ := (mi_list (tg := tg) h).ex
  obtain ⟨t2, p2, q2⟩ := (mi_tup (tg := tg) h).ex
  obtain ⟨t3, p3, q3⟩ := (mi_str (tg := tg) h).ex
  refine ⟨_, PI.or p1 (PI.or p2 p3), fun sl σ w R o s hp => ?_⟩
  have other : (∀ d st, fa sl w.st = some (.ok d st) → iAny fa sl w.st = iL fa sl w.st ∨ iAny fa sl w.st = iT fa sl w.st ∨ iAny fa sl w.st = iS fa sl w.st) := fun d st e => by
    unfold iAny iL iT iS
    rw [e]
    cases d with
    | str x => exact .inr (.inr rfl)
    | tup x => exact .inr (.inl rfl)
    | _ => exact .inl rfl
  cases hf : fa sl w.st with
  | none => unfold iAny at hp; rw [hf] at hp; exact hp.elim
  | some r =>
    cases r with
    | ok d st =>
      rcases other d st hf with z | z | z
      · rw [z] at hp; exact .inl (q1 sl σ w R o s hp)
      · rw [z] at hp; exact .inr (.inl (q2 sl σ w R o s hp))
      · rw [z] at hp; exact .inr (.inr (q3 sl σ w R o s hp))
    | exc x st =>
      have z : iAny fa sl w.st = iL fa sl w.st := by unfold iAny iL; rw [hf]; rfl
      rw [z] at hp; exact .inl (q1 sl σ w R o s hp)
/-! ### a, b = x, y -/
def sPar (i j : Nat) (f : FA) : FS := fun sl st => bnd (f sl st) fun ds st => match ds with
  | [x, y] => ret (.nx ((sl.set i (some x)).set j (some y))) st
  | _ => none
theorem ms_par {i j : Nat} {x y : Str} {px py pt : Pos} {kt k2 pt2} (hc : X.calm = true) (hN : X.N.Nodup) (ha : MA X E [a, b] fs) (hij : i ≠ j) (hi : X.N[i]? = some x := by rfl) (hj : X.N[j]? = some y := by rfl)
    (hx : X.env.scope.names.lookup x = some .local := by rfl) (hy : X.env.scope.names.lookup y = some .local := by rfl)
    (hw : swappedStores [.Tuple [.Name x px, .Name y py] kt pt] (.Tuple [a, b] k2 pt2) X.env = pure (some [x, y]) := by rfl)
    (hs : swapsWithSole [.Tuple [.Name x px, .Name y py] kt pt] (.Tuple [a, b] k2 pt2) pos.line X.env = pure false := by rfl) : MS X E (.Assign [.Tuple [.Name x px, .Name y py] kt pt] (.Tuple [a, b] k2 pt2) pos) (sPar i j fs) := by
  obtain ⟨t, p, q⟩ := ha.ex
  refine ⟨_, ps_par hc hN hi hj hij hx hy p hw hs, fun sl σ w D o s h => ?_⟩
  refine q sl σ w _ o s (post_bndS h fun vs ds w1 o1 s1 r hp => ?_)
  split at hp
  · obtain ⟨x, y, rfl, rx, ry⟩ := r.two_inv
    exact ⟨x, y, rfl, postS_ret o1 hp _ (((s.step s1).set rx).set ry)⟩
  · exact hp.elim
end
/-- the law: a plain run that ends in True -/
def spLaw (K : PySem.W.Frag) : Sp := fun vs H Q _ => ∃ (a : Addr) (ns : List Int), vs = [.ref a] ∧ SqL K H a (ns.map V.int) ∧ ns.length ≤ 63 ∧ ∀ H', Q (.bl true) H'
theorem law_of {P : Program} {w : World} {K : PySem.W.Frag} {mg : Str → Option Value} {base : Heap} {k : Nat} {f : Addr} {fd : FuncData} {ps : List Str} {m : List D → Sto → MM D} (F : FnOk P w K mg base CX0 k f fd ps (spM K 1 m)) (hm : ∀ ns : List Int, ns.length ≤ 63 → ∃ st, m [.scr ns] [] = some (.ok (.bl true) st)) :
    FnOk P w K mg base CX0 k f fd ps (spLaw K) := F.imp fun vs H Q E ⟨a, ns, e, h, hl, q⟩ => by
  subst e
  obtain ⟨st, e⟩ := hm ns hl
  refine ⟨⟨[], [], H, H⟩, [.scr ns], rfl, ⟨rfl, fun _ _ h => h, fun i c z => by simp at z, fun i j a ⟨c, z⟩ => by simp at z⟩, .cons (.scr h) .nil, rfl, ?_⟩
  show Post K E (rD K) _ (m [.scr ns] []) Q
  rw [e]
  intro v w' _ _ _ r
  rw [r.bl_inv]
  exact q _
end M

/-! Rules over the raw machine that the hand layer lacks. -/
namespace M
open PySem PySem.Spec PyProof.Rows L2
theorem LiI_get {α β : Type} {F : α → β → Prop} : ∀ {xs : List α} {ys : List β}, Paired F xs ys → ∀ {i : Nat} {x : α}, xs[i]? = some x → ∃ y, ys[i]? = some y ∧ F x y
  | _, _, .nil, i, x, h => by simp at h
  | _, _, .cons r t, 0, x, h => by
    have e := Option.some.inj h
    subst e
    exact ⟨_, rfl, r⟩
  | _, _, .cons r t, i + 1, x, h => LiI_get t h
def rKeysK : V → Hp → VK → Prop := fun x H Q => ∃ (d : Addr) (kvs : List (Key × V)), x = .ref d ∧ Rd H d (.dK kvs) ∧ ∀ p, H p = none → Q (.ref p) (upd H p (.lst (kvs.map fun kv => kV kv.1)))
def rKeysT : V → Hp → VK → Prop := fun x H Q => ∃ (d : Addr) (kvs : List (List Key × V)), x = .ref d ∧ Rd H d (.dT kvs) ∧ ∀ p bs, H p = none → IsKeys H kvs bs → Q (.ref p) (upd H p (.lst (bs.map V.ref)))
def tKeys (r : V → Hp → VK → Prop) (te : TE) : TE := fun σ H Q => te σ H fun x H1 => r x H1 Q
section
variable {X : Cx} {e : Expr} {te : TE} {p apos cpos pos : Pos}
theorem pgetK {kvs : List (Key × V)} {vs : List (Key × Value)} (r : KV kvs vs) {j : Nat} {x : Key × V} (h : kvs[j]? = some x) : ∃ y, vs[j]? = some y ∧ x.1 = y.1 ∧ RelV x.2 y.2 := LiI_get r h
/-- list(d.keys()) -/
theorem pe_listKeys (hc : X.calm = true) (he : PE X e te) (hm : X.mg "list" = none) (hg : Gl X "list" := by rfl) (hbase : attributeBase e "keys" X.env (eval e X.env) = eval e X.env := by rfl) (hline : (apos.endLine == cpos.line) = true := by rfl)
    (hs : starEach [.Call (.Attribute e "keys" apos) [] [] cpos] X.env = (false, eval (.Call (.Attribute e "keys" apos) [] [] cpos) X.env) :: starEach [] X.env := by rfl) :
    PE X (.Call (.Name "list" p) [.Call (.Attribute e "keys" apos) [] [] cpos] [] pos) (tKeys (fun x H Q => rKeysK x H Q ∨ rKeysT x H Q) te) := by
  refine ⟨fun pins s σ H Q I hq => ?_⟩
  refine wpAny_Call_Name_kw (ld_blt I hg hm (by decide +kernel : bootBuiltins "list" = some (.type "list")) ?_)
  refine PyProof.Rows.callWith_type1 ?_ hs rfl
  rw [hs]
  show wpAny _ _ (spliced ((false, eval (.Call (.Attribute e "keys" apos) [] [] cpos) X.env) :: backTo pos (starEach [] X.env))) _ _ s
  refine Calls.spliced_cons ?_
  refine wpAny_Call_method (T := "dict") (id := "dict.keys") hbase rfl hline F.plainAttrs_dict F.slot_dict_keys F.type_dict_keys (thn (he.run pins s σ H _ I hq) fun u s1 ⟨x, H1, I1, rx, h⟩ => ?_)
  have hd : ∃ d es ep, ∃ vs : List V, x = .ref d ∧ (d == sysModules) = false ∧ s1.heap.DictRaw d es ep ∧ es.size ≤ sizeLine ∧ vs.length ≤ sizeLine ∧ (∀ acc : Array Value, acc.size = es.size → (∀ j v, acc[j]? = some v → ∃ hi : j < es.size, v = es[j].key) → Vals vs acc.toList) ∧ ∀ p, H1 p = none → Q (.ref p) (upd H1 p (.lst vs)) := by
    rcases h with ⟨d, kvs, rfl, hd, q⟩ | ⟨d, kvs, rfl, hd, q⟩
    · obtain ⟨z, lo, vs, rel, dd⟩ := dk_rd I1.hok hd
      obtain ⟨es, ep, raw, hsz, hent⟩ := dd.raw
      refine ⟨d, es, ep, kvs.map fun kv => kV kv.1, rfl, lo, raw, by rw [hsz, ← rel.length]; exact z, by rw [List.length_map]; exact z, fun acc h1 h2 => ?_, q⟩
      refine vals_of_at (by have e1 := Paired.length rel; have e2 : acc.toList.length = acc.size := Array.length_toList; rw [List.length_map]; omega) fun j x v e1 e2 => ?_
      obtain ⟨hi, rfl⟩ := h2 j v (by rw [← Array.getElem?_toList]; exact e2)
      rw [List.getElem?_map] at e1
      cases ek : kvs[j]? with
      | none => rw [ek] at e1; cases e1
      | some kv =>
        rw [ek] at e1; cases e1
        obtain ⟨y, g1, g2, g3⟩ := pgetK rel ek
        obtain ⟨k', x'⟩ := y
        have g2 : kv.1 = k' := g2
        subst g2
        exact keyIs_rel (hent j hi _ _ g1).1
    · obtain ⟨z, lo, ks, pr, o, es, ep, ho, hx, hdt, hes, hn⟩ := (show ObjOk X.prog X.w H1 s1.heap d (.dT kvs) from hd.ok I1.hok)
      have hsz := size_of_entries hes
      refine ⟨d, es, ep, (ks.map fun x => x.2.1).map V.ref, rfl, lo, ⟨o, ho, hx, hdt⟩, by rw [hsz, ← Paired.length pr]; exact z, by rw [List.length_map, List.length_map, ← Paired.length pr]; exact z, fun acc h1 h2 => ?_, fun p hp => q p _ hp (isKeys_of pr)⟩
      refine vals_of_at (by have e2 : acc.toList.length = acc.size := Array.length_toList; rw [List.length_map, List.length_map]; omega) fun j x v e1 e2 => ?_
      obtain ⟨hi, rfl⟩ := h2 j v (by rw [← Array.getElem?_toList]; exact e2)
      rw [List.getElem?_map, List.getElem?_map] at e1
      cases ek : ks[j]? with
      | none => rw [ek] at e1; cases e1
      | some b =>
        rw [ek] at e1; cases e1
        have qe := entry_at hes j
        rw [Array.getElem?_eq_getElem hi, ek] at qe
        have e2 : es[j] = entryOfKey (tupleKind (mixKind X.prog X.w)) b := Option.some.inj qe
        rw [e2]
        rfl
  obtain ⟨d, es, ep, vs, rfl, lo, raw, hz, hzv, hvals, hq⟩ := hd
  obtain rfl : u = Value.ref d := rx
  have I2 : Inv X pins σ H1 { s1 with heap := s1.heap.push { cls := .type "dict_keys", data := .fields #[.ref d] } } := I1.kept (t' := s1.toks) fun b ob q => Heap.get?_push_of_some _ q
  refine ⟨raw.typeIs, fun a ea => by
    cases ea
    obtain ⟨o, ho, hx, _⟩ := raw
    exact ⟨o, ho, hx.2.1⟩, ?_⟩
  show wpAny _ _ (callWith cpos (.builtin "dict.keys") [.ref d] [] []) _ X.xe s1
  refine method_meetsIn F.slot_dict_keys F.entry_dict_keys rfl (PySem.evalArgs_none ⟨rfl, raw.typeIs, F.args_dict_keys_1 _, _, meets_dict_keys_raw d lo, ⟨es, ep, raw⟩, ?_⟩)
  refine Calls.spliced_nil ?_
  refine PySem.W.kdl_call (KdlSrc.rawKeys (r := s1.heap.objs.size) (d := d) (es := es) (ep := ep)) (I1.ok.hd hc) ⟨⟨_, Heap.get?_push_size _ rfl, rfl, rfl⟩, raw.at fun o e => Heap.get?_push_of_some _ e⟩ hz fun h' tk acc c hk hS hacc => ?_
  refine ⟨.ref _, upd H1 _ (.lst vs), I2.laid (t' := tk) hk (Nat.le_refl _) (show ObjOk X.prog X.w _ _ _ (.lst vs) from ⟨hzv, acc.toList, c, hvals acc hacc.1 hacc.2, by rw [Array.toArray_toList]; exact hS⟩), rfl, hq _ (I2.hok.fresh (Nat.le_refl _))⟩
end
end M

/-! max(xs, default=d), min(xs, default=d) over a list of whole numbers. -/
namespace M
open PySem PySem.Spec PyProof.Rows L2
namespace Mx
section
variable {prog : Program} {w : World} {A : Around} {R : Result → Shared → Prop} {J : Addr} {fp wr : List Addr} {n : Nat} {P : Nat → Value → Prop} {G : Nat → Heap → Prop} {kw : List (Str × Value)}
theorem maxTurns (W : Walks prog w A.in1 J fp wr n P G) (bt : Nat → Nat → Bool) (cmp : CmpOf prog w A.in1 .Gt P bt) (B : Addr) (nB : B ∉ fp) : ∀ (k j : Nat) (s : Shared) (u : Value) (c : Nat), n - (j + 1) = k → j + 1 ≤ n → G (j + 1) s.heap → P (argBest bt j) u →
    s.heap.get? B = some { cls := .type "list", dict := none, data := .seq #[u, u] c, slots := #[] } →
    (∀ v h' tk, P (argBest bt (n - 1)) v → (∀ b o, b ∉ wr → b ≠ B → s.heap.get? b = some o → h'.get? b = some o) → R (.ok (.ret v)) { s with heap := h', toks := tk }) → codeAny (model prog w) A (.builtin "max.loop" ⟨[.ref J, .none, .ref B], kw⟩) R s := by
  have wB : B ∉ wr := fun z => nB (W.sub _ z)
  have nm : (toString "max" ++ toString ".loop" : String) = "max.loop" := by decide
  intro k
  induction k with
  | zero =>
    intro j s u c hk hj hG hP hB hR
    have ej : j + 1 = n := by omega
    refine codeAny_builtin F.entry_max_loop ?_
    rw [Around.under_plainId F.plain_max_loop _]
    show wpAny _ _ (seqItems? (Value.ref B) >>= _) _ _ _
    refine wpAny_bind (wpAny_seqItems hB rfl ?_)
    show wpAny _ _ (tryCatch (pyNext (Value.ref J)) _ >>= _) _ _ _
    refine wpAny_bind (wpAny_tryCatch (W.done s _ _ (ej ▸ hG) fun h1 tk k1 => ?_))
    have hB1 := k1 B _ wB hB
    show wpAny _ _ (updateSeq B (fun _ => #[]) >>= _) _ _ _
    refine wpAny_bind (wpAny_updateSeq hB1 rfl (wpAny_bind (wpAny_letGo (wpAny_pure ?_))))
    exact hR u _ tk (by rw [← ej]; exact hP) fun b o n1 n2 e => (Heap.get?_update_other _ _ (Ne.symm n2)).trans (k1 b o n1 e)
  | succ k ih =>
    intro j s u c hk hj hG hP hB hR
    have lt : j + 1 < n := by omega
    refine codeAny_builtin F.entry_max_loop ?_
    rw [Around.under_plainId F.plain_max_loop _]
    show wpAny _ _ (seqItems? (Value.ref B) >>= _) _ _ _
    refine wpAny_bind (wpAny_seqItems hB rfl ?_)
    show wpAny _ _ (tryCatch (pyNext (Value.ref J)) _ >>= _) _ _ _
    refine wpAny_bind (wpAny_tryCatch (W.item (j + 1) s _ _ lt hG fun v h1 tk hv hG1 k1 => ?_))
    have hB1 := k1 B _ wB hB
    show wpAny _ _ (tryCatch (holding [v, v] (richCompare CmpOp.Gt v u >>= _)) _ >>= _) _ _ _
    refine wpAny_bind (wpAny_tryCatch (wpAny_holding (wpAny_bind (cmp (j + 1) (argBest bt j) v u _ _ _ hv hP ?_))))
    refine wpAny_bind (wpAny_holding (wpAny_truthy_bool ?_))
    refine wpAny_bind (wpAny_letGo (wpAny_pure ?_))
    cases hb : bt (j + 1) (argBest bt j) with
    | true =>
      simp only [if_true]
      refine wpAny_bind (wpAny_updateSeq hB1 rfl (wpAny_bind (wpAny_letGo ?_)))
      rw [nm]
      refine wpAny_pure ⟨plainId_quiet F.plain_max_loop _, ih (j + 1) _ v _ (by omega) lt (W.frame _ _ _ hG1 fun b nb o e => (Heap.get?_update_other _ _ (fun z : B = b => nB (by rw [z]; exact nb))).trans e) (by simp only [argBest, hb, if_true]; exact hv) (Heap.get?_update_self _ hB1 rfl) fun v2 h2 tk2 hv2 k2 => ?_⟩
      exact hR v2 h2 tk2 hv2 fun b o n1 n2 e => k2 b o n1 n2 ((Heap.get?_update_other _ _ (Ne.symm n2)).trans (k1 b o n1 e))
    | false =>
      simp only [Bool.false_eq_true, if_false]
      refine wpAny_bind (wpAny_letGo ?_)
      rw [nm]
      refine wpAny_pure ⟨plainId_quiet F.plain_max_loop _, ih (j + 1) _ u c (by omega) lt hG1 (by simp only [argBest, hb, Bool.false_eq_true, if_false]; exact hP) hB1 fun v2 h2 tk2 hv2 k2 => ?_⟩
      exact hR v2 h2 tk2 hv2 fun b o n1 n2 e => k2 b o n1 n2 (k1 b o n1 e)
theorem maxFirst (W : Walks prog w A.in1 J fp wr n P G) (bt : Nat → Nat → Bool) (cmp : CmpOf prog w A.in1 .Gt P bt) (B : Addr) (nB : B ∉ fp) (d : Value) {s : Shared} {c : Nat} (hG : G 0 s.heap)
    (hB : s.heap.get? B = some { cls := .type "list", dict := none, data := .seq #[] c, slots := #[] })
    (hR : ∀ v h' tk, (if n = 0 then v = d else P (argBest bt (n - 1)) v) → (∀ b o, b ∉ wr → b ≠ B → s.heap.get? b = some o → h'.get? b = some o) → R (.ok (.ret v)) { s with heap := h', toks := tk }) :
    codeAny (model prog w) A (.builtin "max.loop" ⟨[.ref J, .none, .ref B], [("default", d)]⟩) R s := by
  have wB : B ∉ wr := fun z => nB (W.sub _ z)
  have nm : (toString "max" ++ toString ".loop" : String) = "max.loop" := by decide
  refine codeAny_builtin F.entry_max_loop ?_
  rw [Around.under_plainId F.plain_max_loop _]
  show wpAny _ _ (seqItems? (Value.ref B) >>= _) _ _ _
  refine wpAny_bind (wpAny_seqItems hB rfl ?_)
  show wpAny _ _ (tryCatch (pyNext (Value.ref J)) _ >>= _) _ _ _
  by_cases hn : n = 0
  · refine wpAny_bind (wpAny_tryCatch (W.done s _ _ (hn ▸ hG) fun h1 tk k1 => ?_))
    refine wpAny_bind ?_
    refine wpAny_rule ?_
    refine wpAny_pure ?_
    exact hR d h1 tk (by rw [if_pos hn]) fun b o n1 n2 e => k1 b o n1 e
  · refine wpAny_bind (wpAny_tryCatch (W.item 0 s _ _ (by omega) hG fun v h1 tk hv hG1 k1 => ?_))
    have hB1 := k1 B _ wB hB
    show wpAny _ _ (updateSeq B (fun _ => #[v, v]) >>= _) _ _ _
    refine wpAny_bind (wpAny_updateSeq hB1 rfl ?_)
    rw [nm]
    refine wpAny_pure ⟨plainId_quiet F.plain_max_loop _, maxTurns W bt cmp B nB _ 0 _ v _ rfl (by omega) (W.frame _ _ _ hG1 fun b nb o e => (Heap.get?_update_other _ _ (fun z : B = b => nB (by rw [z]; exact nb))).trans e) hv (Heap.get?_update_self _ hB1 rfl) fun v2 h2 tk2 hv2 k2 => ?_⟩
    exact hR v2 h2 tk2 (by rw [if_neg hn]; exact hv2) fun b o n1 n2 e => k2 b o n1 n2 ((Heap.get?_update_other _ _ (Ne.symm n2)).trans (k1 b o n1 e))
theorem argsD (a d : Value) : argsOk "max" ⟨[a], [("default", d)]⟩ := by unfold argsOk; kernel_rfl
theorem call_maxD {prog : Program} {w : World} {A : Around} {E : Value → Shared → Prop} {s : Shared} {l : Addr} {xs : Array (Int × Tok)} {d : Value} {Q : Value → Shared → Prop} (hh : A.handled = none) (hl : s.heap.IsList l (intItems xs))
    (h : ∀ v h' tk, (if xs.size = 0 then v = d else (intItems xs)[argBest (fun i j => decide (numAt xs i > numAt xs j)) (xs.size - 1)]? = some v) → (∀ b o, s.heap.get? b = some o → h'.get? b = some o) → Q v { s with heap := h', toks := tk }) :
    wpAny (model prog w) A (call (.builtin "max") [.ref l] [("default", d)]) Q E s := by
  have nm : (toString "max" ++ toString ".loop" : String) = "max.loop" := by decide
  refine wpAny_call (codeAny_call_builtin F.plain_max F.entry_max ?_)
  simp only [checkBuiltinCall, F.kind_max]
  have main : wpAny (model prog w) A.in1 (Builtin.«max» ⟨[.ref l], [("default", d)]⟩) (fun fin s' => match fin with
      | .done f => (match (Except.ok f : Result) with | .ok (.ret v) => Q v s' | .ok _ => False | .error e => E e s')
      | .again c' => c'.quiet = true ∧ codeAny (model prog w) A c' (fun r s' => match r with | .ok (.ret v) => Q v s' | .ok _ => False | .error e => E e s') s') E s := by
    show wpAny _ A.in1 (Builtin.Builtins.bindParams "max" ["key", "default"] 0 ⟨[], [("default", d)]⟩ >>= _) _ _ s
    refine wpAny_bind (wpAny_of_eq (show Builtin.Builtins.bindParams "max" ["key", "default"] 0 ⟨[], [("default", d)]⟩ = pure [none, some d] by kernel_rfl) ?_)
    refine wpAny_bind (wpAny_pure ?_)
    refine wpAny_bind (iter_intList hl fun s₂ e st hfp hlI => ?_)
    subst e
    refine wpAny_bind (wpAny_newObj_type ?_)
    rw [nm]
    have nf : (s.heap.push { cls := .type "list_iterator", data := .fields #[.ref l, .int 0 0] }).objs.size ∉ [s.heap.objs.size, l] := fun z => Nat.lt_irrefl _ (hfp _ z)
    have W := Walks.list (prog := prog) (w := w) (A := A.in1) hh s.heap.objs.size l hlI (intItems xs)
    refine wpAny_pure ⟨plainId_quiet F.plain_max_loop _, Mx.maxFirst W (fun i j => decide (numAt xs i > numAt xs j)) (CmpOf.ints_gt (numAt xs) (fun _ _ => intItems_at)) _ nf d (W.frame _ _ _ st fun b _ o e => Heap.get?_push_of_some _ e) (Heap.get?_push_size _ rfl) fun v h' tk hP hk => ?_⟩
    have ez : (intItems xs).size = xs.size := by simp [intItems]
    rw [ez] at hP
    refine h v h' tk hP fun b o e => hk b o (fun z => ?_) (Nat.ne_of_lt (Nat.lt_trans (Heap.lt_size e) (by rw [Heap.size_push]; exact Nat.lt_succ_self _))) (Heap.get?_push_of_some _ (Heap.get?_push_of_some _ e))
    have z' : b = s.heap.objs.size := by simpa using z
    exact absurd (Heap.lt_size e) (by rw [z']; exact Nat.lt_irrefl _)
  cases hsig : Manifest.signature? "max" with
  | none => exact wpAny_pure main
  | some sig =>
    have ha := argsD (.ref l) d
    simp only [argsOk, hsig] at ha
    have h2 : Bind.checkArgs "max" sig ⟨[.ref l], [("default", d)]⟩ = pure () := ha
    show wpAny _ A.in1 (Bind.checkArgs "max" sig ⟨[.ref l], [("default", d)]⟩) _ _ s
    rw [h2]; exact wpAny_pure main
end
end Mx
/-- the greatest of a list of whole numbers, d if it is empty -/
def rMaxD (K : PySem.W.Frag) : List V → List V → Hp → VK → Prop := fun vs zs H Q => ∃ (a : Addr) (ns : List Int) (d : V), vs = [V.ref a] ∧ zs = [d] ∧ SqL K H a (ns.map V.int) ∧ (ns = [] → Q d H) ∧ ∀ m, m ∈ ns → (∀ y, y ∈ ns → y ≤ m) → Q (.int m) H
theorem cr_maxD {X : Cx} (hc : X.calm = true) : CallRK X (.builtin "max") [Str.ofString "default"] (rMaxD X.K) := by
  intro pins s σ H vs zs us ws Q I r rz h
  obtain ⟨a, ns, d, rfl, rfl, hs, q0, q⟩ := h
  obtain ⟨its, rv, hl, _⟩ := I.list hs
  rw [Vals.ref1 r]
  obtain ⟨dv, rfl, rd⟩ := vals1 rz
  obtain ⟨xs, e⟩ := rv.ints.allInts.items
  have hn : numsOf (intItems xs).toList = ns := by rw [← e]; exact rv.ints.numsOf
  rw [nums_intItems] at hn
  have hl' := hl.isList
  rw [e] at hl'
  refine Mx.call_maxD (I.ok.hd hc) hl' fun v h' tk hP hk => ?_
  have hlen : ns.length = xs.size := by rw [← hn, List.length_map, Array.length_toList]
  by_cases hz : xs.size = 0
  · rw [if_pos hz] at hP
    subst hP
    have e0 : ns = [] := List.length_eq_zero_iff.mp (by omega)
    exact ⟨d, H, I.kept hk, rd, q0 e0⟩
  · rw [if_neg hz] at hP
    obtain ⟨t, rfl⟩ := intItems_at hP
    obtain ⟨h1, h2⟩ := argBest_gt (numAt xs) (xs.size - 1)
    refine ⟨.int _, H, I.kept hk, ⟨t, rfl⟩, q _ ?_ fun y hy => ?_⟩
    · rw [numAt_eq, hn]; exact PySem.getD_mem (by omega)
    · rw [← hn] at hy
      obtain ⟨j, hj, rfl⟩ := mem_getD hy
      rw [List.length_map, Array.length_toList] at hj
      rw [← numAt_eq]; exact h2 j (by omega)
end M

namespace M
open PySem PySem.Spec L2
/-- a key as a datum -/
def kD : Key → D
  | .inl i => .int i
  | .inr s => .str s
theorem rep_kD {K : PySem.W.Frag} {F : Hp} {α : List Addr} (k : Key) : Rep K F α (kV k) (kD k) := by
  cases k with
  | inl i => exact .int i
  | inr s => exact .str s
theorem reps_kD {K : PySem.W.Frag} {F : Hp} {α : List Addr} : ∀ ks : List Key, Reps K F α (ks.map kV) (ks.map kD)
  | [] => .nil
  | k :: r => .cons (rep_kD k) (reps_kD r)
/-- tuples that stand in the heap are learnt, all of them -/
theorem learn_all {K : PySem.W.Frag} : ∀ (bs : List Addr) (ks : List (List Key)) (w : Ws), Ok K w → Paired (fun (k : List Key) (b : Addr) => w.H b = some (.tup (k.map kV))) ks bs →
    ∃ w1, w1.st = w.st ∧ w1.H = w.H ∧ Ok K w1 ∧ Step w w1 ∧ Reps K w1.F w1.al (bs.map V.ref) (ks.map fun k => .tup (k.map kD))
  | _, _, w, o, .nil => ⟨w, rfl, rfl, o, Step.refl w, .nil⟩
  | _, _, w, o, .cons (b := b) (l₁ := ks) (l₂ := bs) h t => by
    have o1 := ok_learn o h
    have s1 := step_learn o h
    obtain ⟨w1, e1, e2, o2, s2, r⟩ := learn_all _ _ (w.learn b _) o1 t
    refine ⟨w1, e1, e2, o2, s1.trans s2, .cons ?_ r⟩
    exact .tup (s2.le.tup _ _ (show upd w.F b _ b = _ from upd_same)) (reps_kD _)
def keysD (st : Sto) (x : D) : Option (List D) := match dkOf st x with
  | some ds => some (ds.map fun p => kD p.1)
  | none => match dtOf st x with
    | some ds => some (ds.map fun p => .tup (p.1.map kD))
    | none => none
section
variable {X : Cx} {E : XK} {K : PySem.W.Frag} {a b c e o i : Expr} {es rest : List Expr} {fa fb fc fi : FE} {fs : FA} {ta tb tc : TE} {pos apos cpos p : Pos}
def mKeys (c : Bool) (f : FE) : FE := fun sl st => bnd (f sl st) fun x st => match keysD st x with
  | some ds => mkL c ds st
  | none => none
theorem me_listKeys (c : Bool) (hc : X.calm = true) (he : ME X E e fa) (hm : X.mg "list" = none) (hg : Gl X "list" := by rfl) (hbase : attributeBase e "keys" X.env (eval e X.env) = eval e X.env := by rfl) (hline : (apos.endLine == cpos.line) = true := by rfl)
    (hs : starEach [.Call (.Attribute e "keys" apos) [] [] cpos] X.env = (false, eval (.Call (.Attribute e "keys" apos) [] [] cpos) X.env) :: starEach [] X.env := by rfl) :
    ME X E (.Call (.Name "list" p) [.Call (.Attribute e "keys" apos) [] [] cpos] [] pos) (mKeys c fa) := by
  obtain ⟨t, p, q⟩ := he.ex
  refine ⟨_, pe_listKeys hc p hm hg hbase hline hs, fun sl σ w Q o s h => ?_⟩
  refine q sl σ w _ o s (post_bnd h fun x dx w1 o1 s1 rx hp => ?_)
  unfold keysD at hp
  cases h1 : dkOf w1.st dx with
  | some ds =>
    simp only [h1] at hp
    obtain ⟨d, kvs, rfl, hr, ek, rs⟩ := dkOf_rep o1 rx h1
    refine .inl ⟨d, kvs, rfl, hr, fun p np => post_mkL o1 hp np ?_⟩
    have e1 : (kvs.map fun kv => kV kv.1) = (ds.map (·.1)).map kV := by rw [← ek, List.map_map]; rfl
    have e2 : (ds.map fun p => kD p.1) = (ds.map (·.1)).map kD := by rw [List.map_map]; rfl
    rw [e1, e2]
    exact reps_kD _
  | none =>
    simp only [h1] at hp
    cases h2 : dtOf w1.st dx with
    | none => simp only [h2] at hp; exact hp.elim
    | some ds =>
      simp only [h2] at hp
      obtain ⟨d, kvs, rfl, hr, ek, rs⟩ := dtOf_rep o1 rx h2
      refine .inr ⟨d, kvs, rfl, hr, fun p bs np hk => ?_⟩
      have hk2 : Paired (fun (k : List Key) (b : Addr) => w1.H b = some (.tup (k.map kV))) (ds.map (·.1)) bs := by
        rw [← ek]
        clear hp ek rs hr h1 h2
        induction hk with
        | nil => exact .nil
        | cons h _ ih => exact .cons h ih
      obtain ⟨w2, e1, e2, o2, s2, r⟩ := learn_all _ _ w1 o1 hk2
      have e3 : (ds.map fun p => D.tup (p.1.map kD)) = (ds.map (·.1)).map fun k => .tup (k.map kD) := by rw [List.map_map]; rfl
      rw [← e2]
      refine post_mkL (c := c) (E := E) o2 (Post.step s2 ?_) (by rw [e2]; exact np) r
      rw [e1, ← e3]; exact hp
/-! ### plain data for the library's own orders -/
mutual
def py : D → Option PyData
  | .non => some .none
  | .bl b => some (.bool b)
  | .int i => some (.int i)
  | .str s => some (.str s)
  | .tup ds => (pys ds).map .tuple
  | .lst ds => (pys ds).map .list
  | .dct _ => none
  | .dcT _ => none
  | .ptr _ => none
  | .scr _ => none
def pys : List D → Option (List PyData)
  | [] => some []
  | d :: r => match py d, pys r with
    | some x, some xs => some (x :: xs)
    | _, _ => none
end
mutual
theorem py_rep {w : Ws} (o : Ok K w) : ∀ {v : V} {d : D} {x : PyData}, Rep K w.F w.al v d → py d = some x → Dp K w.H v x
  | _, _, _, .non, h => by rw [py] at h; cases h; exact .non
  | _, _, _, .bl b, h => by rw [py] at h; cases h; exact .bl b
  | _, _, _, .int i, h => by rw [py] at h; cases h; exact .int i
  | _, _, _, .str s, h => by rw [py] at h; cases h; exact .str s
  | _, _, _, .tup (ds := ds) f r, h => by
    rw [py] at h
    cases q : pys ds with
    | none => rw [q] at h; cases h
    | some xs => rw [q] at h; cases h; exact .tup (SqT.of (o.sub _ _ f)) (pys_rep o r q)
  | _, _, _, .lst (ds := ds) f r, h => by
    rw [py] at h
    cases q : pys ds with
    | none => rw [q] at h; cases h
    | some xs => rw [q] at h; cases h; exact .lst (SqL.of (o.sub _ _ f)) (pys_rep o r q)
  | _, _, _, .dct _ _ _, h => by rw [py] at h; cases h
  | _, _, _, .dcT _ _ _, h => by rw [py] at h; cases h
  | _, _, _, .ptr _, h => by rw [py] at h; cases h
  | _, _, _, .scr _, h => by rw [py] at h; cases h
theorem pys_rep {w : Ws} (o : Ok K w) : ∀ {vs : List V} {ds : List D} {xs : List PyData}, Reps K w.F w.al vs ds → pys ds = some xs → DpAll K w.H vs xs
  | _, _, _, .nil, h => by rw [pys] at h; cases h; exact .nil
  | _, _, _, .cons (d := d) (ds := ds) r rs, h => by
    rw [pys] at h
    cases q : py d with
    | none => simp only [q] at h; cases h
    | some x =>
      cases q2 : pys ds with
      | none => simp only [q, q2] at h; cases h
      | some xs => simp only [q, q2] at h; cases h; exact .cons (py_rep o r q) (pys_rep o rs q2)
end
/-- .. also of a list that is a cell, or the script -/
def pyT (st : Sto) (d : D) : Option PyData := match d with
  | .ptr i => match cellL st i with
    | some ds => (pys ds).map .list
    | none => none
  | .scr ns => some (.list (ns.map .int))
  | d => py d
theorem pyT_rep {w : Ws} (o : Ok K w) {v : V} {d : D} {x : PyData} (r : Rep K w.F w.al v d) (h : pyT w.st d = some x) : Dp K w.H v x := by
  cases d with
  | ptr i =>
    have h' : (match cellL w.st i with
      | some ds => (pys ds).map PyData.list
      | none => none) = some x := h
    cases q : cellL w.st i with
    | none => rw [q] at h'; cases h'
    | some ds =>
      simp only [q] at h'
      cases q2 : pys ds with
      | none => rw [q2] at h'; cases h'
      | some xs =>
        rw [q2] at h'; cases h'
        obtain ⟨a, vs, rfl, _, _, hx, rs⟩ := cell_lst o r q
        exact .lst (SqL.of hx) (pys_rep o rs q2)
  | scr ns =>
    have h' : some (PyData.list (ns.map .int)) = some x := h
    cases h'
    obtain ⟨a, rfl, s⟩ := r.scr_inv
    refine .lst (sub_sqL o s) ?_
    have all : ∀ ns : List Int, DpAll K w.H (ns.map V.int) (ns.map PyData.int) := fun ns => by
      induction ns with
      | nil => exact .nil
      | cons n r ih => exact .cons (.int n) ih
    exact all ns
  | _ => exact py_rep o r h
def gEqD (neg : Bool) : Sto → D → D → MM D := fun st x y => match pyT st x, pyT st y with
  | some a, some b => if SeqAt.shaped a = true ∧ SeqAt.shaped b = true then ret (.bl (if neg then !PyData.eqv a b else PyData.eqv a b)) st else none
  | _, _ => none
theorem rf_eqD : Rf2 K E (rEqD K) (gEqD false) := fun x y dx dy w Q o rx ry hp => by
  unfold gEqD at hp
  cases h1 : pyT w.st dx with
  | none => simp only [h1] at hp; exact hp.elim
  | some u =>
    cases h2 : pyT w.st dy with
    | none => simp only [h1, h2] at hp; exact hp.elim
    | some v =>
      simp only [h1, h2] at hp
      obtain ⟨⟨p1, p2⟩, hp⟩ := post_ite hp
      exact ⟨u, v, pyT_rep o rx h1, pyT_rep o ry h2, p1, p2, post_ret o (.bl _) hp⟩
theorem rf_neD : Rf2 K E (rNeD K) (gEqD true) := fun x y dx dy w Q o rx ry hp => by
  unfold gEqD at hp
  cases h1 : pyT w.st dx with
  | none => simp only [h1] at hp; exact hp.elim
  | some u =>
    cases h2 : pyT w.st dy with
    | none => simp only [h1, h2] at hp; exact hp.elim
    | some v =>
      simp only [h1, h2] at hp
      obtain ⟨⟨p1, p2⟩, hp⟩ := post_ite hp
      exact ⟨u, v, pyT_rep o rx h1, pyT_rep o ry h2, p1, p2, post_ret o (.bl _) hp⟩
/-! ### isinstance(x, T), T a built-in type -/
def tyOf (st : Sto) : D → Option String
  | .non => some "NoneType"
  | .bl _ => some "bool"
  | .int _ => some "int"
  | .str _ => some "str"
  | .tup _ => some "tuple"
  | .lst _ => some "list"
  | .scr _ => none
  | .dct _ => none
  | .dcT _ => none
  | .ptr i => match cellL st i with
    | some _ => some "list"
    | none => none
theorem tyOf_rep {w : Ws} (o : Ok K w) {v : V} {d : D} {n : String} (r : Rep K w.F w.al v d) (h : tyOf w.st d = some n) : TyX K w.H v (.type n) := by
  cases d with
  | non => cases h; cases r; exact .base .non
  | bl b => cases h; cases r; exact .base (.bl b)
  | int b => cases h; cases r; exact .base (.int b)
  | str b => cases h; cases r; exact .base (.str b)
  | tup ds => cases h; obtain ⟨a, xs, rfl, f, _⟩ := r.tup_inv; exact .base (.tup (o.sub _ _ f))
  | lst ds => cases h; obtain ⟨a, xs, rfl, f, _⟩ := r.lst_inv; exact .base (.lst (o.sub _ _ f))
  | ptr i =>
    have h' : (match cellL w.st i with
      | some _ => some "list"
      | none => none) = some n := h
    cases q : cellL w.st i with
    | none => rw [q] at h'; cases h'
    | some ds =>
      rw [q] at h'; cases h'
      obtain ⟨a, vs, rfl, _, _, hx, _⟩ := cell_lst o r q
      exact .base (.lst hx)
  | _ => cases h
def gIsi (T : String) : Sto → D → MM D := fun st x => match tyOf st x with
  | some n => match kitB n T with
    | some b => ret (.bl b) st
    | none => none
  | none => none
theorem me_isi {T : String} {x : Str} {p2 : Pos} (hm : X.mg "isinstance" = none) (hmT : X.mg x = none) (ha : ME X E e fa) (hvT : bootBuiltins x = some (.type T) := by decide +kernel) (hg : Gl X "isinstance" := by rfl) (hgT : Gl X x := by rfl) (hnT : x ≠ "__name__" := by decide) (hdT : (x == ("__debug__" : Str)) = false := by decide)
    (he : starEach [e, .Name x p2] X.env = (false, eval e X.env) :: starEach [.Name x p2] X.env := by rfl) (he2 : starEach [.Name x p2] X.env = (false, eval (.Name x p2) X.env) :: starEach [] X.env := by rfl) (hpl : (backTo pos (starEach [.Name x p2] X.env)).any (·.1) = false := by rfl) :
    ME X E (.Call (.Name "isinstance" p) [e, .Name x p2] [] pos) (mUn (gIsi T) fa) := by
  obtain ⟨t, p, q⟩ := ha.ex
  refine ⟨_, pe_callB call_isi hg hm (by decide +kernel) (pa_cons p (pa_cons (pe_bltn hgT hmT hvT (v := .ty T) rfl hnT hdT) pa_nil he2) he) (by decide) (by decide) he hpl, fun sl σ w Q o s h => ?_⟩
  refine q sl σ w _ o s (post_bnd h fun v dv w1 o1 s1 r hp => ?_)
  show rIsi X.K [v, .ty T] w1.H Q
  unfold gIsi at hp
  cases h1 : tyOf w1.st dv with
  | none => simp only [h1] at hp; exact hp.elim
  | some n =>
    cases h2 : kitB n T with
    | none => simp only [h1, h2] at hp; exact hp.elim
    | some b =>
      simp only [h1, h2] at hp
      exact ⟨v, .ty T, .type n, .type T, b, rfl, .ty T, tyOf_rep o1 r h1, kit_ty h2, post_ret o1 (.bl b) hp⟩
/-! ### the greatest of a list of whole numbers -/
def intsOf : List D → Option (List Int)
  | [] => some []
  | d :: r => match d, intsOf r with
    | .int i, some is => some (i :: is)
    | _, _ => none
theorem intsOf_rep {F : Hp} {α : List Addr} : ∀ {vs : List V} {ds : List D} {is : List Int}, Reps K F α vs ds → intsOf ds = some is → vs = is.map V.int
  | _, _, _, .nil, h => by cases h; rfl
  | _, _, is, .cons (v := v) (d := d) (vs := vs) (ds := ds) r rs, h => by
    cases d with
    | int i =>
      have h' : (match intsOf ds with
        | some is => some (i :: is)
        | none => none) = some is := by
        have : intsOf (.int i :: ds) = (match D.int i, intsOf ds with
          | .int i, some is => some (i :: is)
          | _, _ => none) := rfl
        rw [this] at h
        cases q : intsOf ds with
        | none => rw [q] at h; cases h
        | some is2 => rw [q] at h; exact h
      cases q : intsOf ds with
      | none => rw [q] at h'; cases h'
      | some is2 =>
        rw [q] at h'; cases h'
        rw [r.int_inv, intsOf_rep rs q]; rfl
    | _ => cases h
theorem intsOf_map : ∀ is : List Int, intsOf (is.map .int) = some is
  | [] => rfl
  | i :: r => by
    show (match D.int i, intsOf (r.map .int) with
      | .int i, some is => some (i :: is)
      | _, _ => none) = _
    rw [intsOf_map r]
def maxOf : List Int → Int
  | [] => 0
  | [a] => a
  | a :: b :: r => max a (maxOf (b :: r))
theorem maxOf_mem : ∀ {is : List Int}, is ≠ [] → maxOf is ∈ is ∧ ∀ y ∈ is, y ≤ maxOf is
  | [], h => absurd rfl h
  | [a], _ => by simp [maxOf]
  | a :: b :: r, _ => by
    obtain ⟨h1, h2⟩ := maxOf_mem (is := b :: r) (by simp)
    show max a (maxOf (b :: r)) ∈ _ ∧ ∀ y ∈ _, y ≤ max a (maxOf (b :: r))
    refine ⟨?_, fun y hy => ?_⟩
    · by_cases z : a ≤ maxOf (b :: r)
      · rw [Int.max_eq_right z]; exact List.mem_cons_of_mem _ h1
      · rw [Int.max_eq_left (by omega)]; exact List.mem_cons_self
    · rcases List.mem_cons.mp hy with rfl | hy
      · exact Int.le_max_left _ _
      · exact Int.le_trans (h2 y hy) (Int.le_max_right _ _)
theorem maxOf_is {is : List Int} {m : Int} (h1 : m ∈ is) (h2 : ∀ y ∈ is, y ≤ m) : m = maxOf is := by
  have hn : is ≠ [] := fun z => by rw [z] at h1; simp at h1
  obtain ⟨g1, g2⟩ := maxOf_mem hn
  exact Int.le_antisymm (g2 m h1) (h2 _ g1)
def cMaxL (st : Sto) (ds : List D) : MM D := match ds with
  | [x] => match (lstOf st x).bind intsOf with
    | some is => if is = [] then none else ret (.int (maxOf is)) st
    | none => none
  | _ => none
theorem rf_maxL : RfC K E (rMax K) cMaxL := fun xs ds w Q o r hp => by
  unfold cMaxL at hp
  split at hp
  · rename_i d
    obtain ⟨x, rfl, rx⟩ := r.one_inv
    cases h1 : lstOf w.st d with
    | none => simp only [h1, Option.bind_none] at hp; exact hp.elim
    | some es =>
      simp only [h1, Option.bind_some] at hp
      cases h2 : intsOf es with
      | none => simp only [h2] at hp; exact hp.elim
      | some is =>
        simp only [h2] at hp
        obtain ⟨a, vs, rfl, hs, rs⟩ := lstOf_rep o rx h1
        by_cases z : is = []
        · rw [if_pos z] at hp; exact hp.elim
        · rw [if_neg z] at hp
          rw [intsOf_rep rs h2] at hs
          refine ⟨a, is, rfl, hs, List.length_pos_iff.mpr z, fun m m1 m2 => ?_⟩
          rw [maxOf_is m1 m2]; exact post_ret o (.int _) hp
  · exact hp.elim
/-- max(xs, default=d) -/
def mMaxD (fa fb : FE) : FE := fun sl st => bnd (fa sl st) fun x st => bnd (fb sl st) fun d st => match (lstOf st x).bind intsOf with
  | some is => if is = [] then ret d st else ret (.int (maxOf is)) st
  | none => none
theorem me_maxD {kp : Pos} (hc : X.calm = true) (hm : X.mg "max" = none) (ha : ME X E a fa) (hb : ME X E b fb) (hg : Gl X "max" := by rfl)
    (h1 : starEach [a] X.env = (false, eval a X.env) :: starEach [] X.env := by rfl)
    (he : backTo pos (starEach [a] X.env) = (false, eval a X.env) :: backTo pos (starEach [] X.env) := by rfl) (hpl : (backTo pos (starEach [a] X.env)).any (·.1) = false := by rfl)
    (hall : (backToKw pos (keywordEach [⟨some "default", b, kp⟩] X.env)).all (·.1.isSome) = true := by rfl) (hnone : (backToKw pos (keywordEach [⟨some "default", b, kp⟩] X.env)).any (·.1.isNone) = false := by rfl) (hks : (backToKw pos (keywordEach [⟨some "default", b, kp⟩] X.env)).filterMap (·.1) = [Str.ofString "default"] := by rfl) :
    ME X E (.Call (.Name "max" p) [a] [⟨some "default", b, kp⟩] pos) (mMaxD fa fb) := by
  obtain ⟨t, p, q⟩ := ha.ex
  obtain ⟨t2, p2, q2⟩ := hb.ex
  refine ⟨_, pe_callBK (cr_maxD hc) hg hm (by decide +kernel) (pa_cons p pa_nil h1) (pk_cons p2 pk_nil) (by decide) (by decide) he hpl hall hnone hks, fun sl σ w Q o s h => ?_⟩
  refine q sl σ w _ o s (post_bnd h fun x dx w1 o1 s1 rx hp => ?_)
  refine q2 sl σ w1 _ o1 (s.step s1) (post_bnd hp fun y dy w2 o2 s2 ry hp => ?_)
  show rMaxD X.K [x] [y] w2.H Q
  have rx := rx.mono s2.le s2.pre
  cases h1 : lstOf w2.st dx with
  | none => simp only [h1, Option.bind_none] at hp; exact hp.elim
  | some es =>
    simp only [h1, Option.bind_some] at hp
    cases h2 : intsOf es with
    | none => simp only [h2] at hp; exact hp.elim
    | some is =>
      simp only [h2] at hp
      obtain ⟨a, vs, rfl, hs, rs⟩ := lstOf_rep o2 rx h1
      rw [intsOf_rep rs h2] at hs
      refine ⟨a, is, y, rfl, rfl, hs, fun z => ?_, fun m m1 m2 => ?_⟩
      · rw [if_pos z] at hp; exact post_ret o2 ry hp
      · have z : is ≠ [] := fun z => by rw [z] at m1; simp at m1
        rw [if_neg z] at hp
        rw [maxOf_is m1 m2]; exact post_ret o2 (.int _) hp
/-! ### y = [e for x in xs], a name -/
section
variable {E' : XK} {elt tg iter : Expr} {scope : Scope} {own : List (Str × Nat)} {gt : FG} {ft : FT} {fe : FE} {g : TG} {fI : FA} {spos py : Pos} {y : Str} {k : Nat}
theorem ms_setLc (b : Bool) (hc : X.calm = true) (hN : X.N.Nodup) (hi : MI X E tg iter fI) (ok : BlkOk X.N X.env.scope scope own)
    (hg : ∀ (s : Shared) (H : Hp) (C : Addr) (cl : List (Str × Addr)) (fp : List Addr), PG (X.blk s H scope (compEnvC scope cl C X.env) fp) tg g) (hgr : RfGW X.K E' (own.map (·.2)) g gt)
    (he : ∀ (s : Shared) (H : Hp) (C : Addr) (cl : List (Str × Addr)) (fp : List Addr), ME (X.blk s H scope (compEnvC scope cl C X.env) fp) E' elt fe) (hy : X.N[k]? = some y := by rfl) (hyl : X.env.scope.names.lookup y = some .local := by rfl)
    (hsw : swapsWith (.ListComp elt [⟨tg, iter, [], 0⟩] scope pos) (some (.Name y py)) spos.line X.env = pure true := by exact sw_true rfl rfl rfl (by decide +kernel)) (hs : ∀ x, foldedSetIterable iter X.env x = pure x := by intro _; rfl) :
    MS X E (.Assign [.Name y py] (.ListComp elt [⟨tg, iter, [], 0⟩] scope pos) spos) (sAsg (mLc b fI gt tYesD fe (own.map (·.2))) (gNm k)) := by
  obtain ⟨wi, p, q⟩ := hi.ex
  refine ⟨_, ps_setLc hc hN hy hyl hsw p ok hg (fun _ _ _ _ _ => pts_nil) (fun s H C cl fp => (show PE (X.blk s H scope (compEnvC scope cl C X.env) fp) elt (tE X.K E' fe) from (he s H C cl fp).can)) hs, ref_asg ?_ fun v d sl σ w Q o r s h => h (σ.set k (some v)) w rfl o (Step.refl w) (s.set r)⟩
  exact ref_lc (E' := E') b q hgr (fun sl σ w Q o s h => post_ret o rfl h) (fun sl σ w Q o s h => ⟨sl, w, rfl, o, s, h⟩) fun σ => wipe_wipe σ _
theorem ms_setLcIf (b : Bool) (hc : X.calm = true) (hN : X.N.Nodup) (hi : MI X E tg iter fI) (ok : BlkOk X.N X.env.scope scope own)
    (hg : ∀ (s : Shared) (H : Hp) (C : Addr) (cl : List (Str × Addr)) (fp : List Addr), PG (X.blk s H scope (compEnvC scope cl C X.env) fp) tg g) (hgr : RfGW X.K E' (own.map (·.2)) g gt)
    (ht : ∀ (s : Shared) (H : Hp) (C : Addr) (cl : List (Str × Addr)) (fp : List Addr), MT (X.blk s H scope (compEnvC scope cl C X.env) fp) E' c ft)
    (he : ∀ (s : Shared) (H : Hp) (C : Addr) (cl : List (Str × Addr)) (fp : List Addr), ME (X.blk s H scope (compEnvC scope cl C X.env) fp) E' elt fe) (hy : X.N[k]? = some y := by rfl) (hyl : X.env.scope.names.lookup y = some .local := by rfl)
    (hsw : swapsWith (.ListComp elt [⟨tg, iter, [c], 0⟩] scope pos) (some (.Name y py)) spos.line X.env = pure true := by exact sw_true rfl rfl rfl (by decide +kernel)) (hs : ∀ x, foldedSetIterable iter X.env x = pure x := by intro _; rfl) :
    MS X E (.Assign [.Name y py] (.ListComp elt [⟨tg, iter, [c], 0⟩] scope pos) spos) (sAsg (mLc b fI gt ft fe (own.map (·.2))) (gNm k)) := by
  obtain ⟨wi, p, q⟩ := hi.ex
  refine ⟨_, ps_setLc hc hN hy hyl hsw p ok hg (fun s H C cl fp => pts_one (show PT (X.blk s H scope (compEnvC scope cl C X.env) fp) c (tT X.K E' ft) from (ht s H C cl fp).can)) (fun s H C cl fp => (show PE (X.blk s H scope (compEnvC scope cl C X.env) fp) elt (tE X.K E' fe) from (he s H C cl fp).can)) hs, ref_asg ?_ fun v d sl σ w Q o r s h => h (σ.set k (some v)) w rfl o (Step.refl w) (s.set r)⟩
  exact ref_lc (E' := E') b q hgr (fun sl σ w Q o s h => ⟨sl, w, rfl, o, s, h⟩) (fun sl σ w Q o s h => ⟨sl, w, rfl, o, s, h⟩) fun σ => wipe_wipe σ _
end
end
end M

namespace M
open PySem PySem.Spec L2
/-- data to be sorted: bs with their values, enc their plain data -/
def rSortD (K : PySem.W.Frag) : List V → Hp → VK → Prop := fun vs H Q => ∃ (a : Addr) (β : Type) (bs : List (V × β)) (enc : β → PyData), vs = [V.ref a] ∧ SqL K H a (bs.map (·.1)) ∧ DpAll K H (bs.map (·.1)) (bs.map fun b => enc b.2) ∧
  PySem.W.AllAlike (bs.map fun b => enc b.2) ∧ PySem.W.Sortable (bs.map fun b => enc b.2) ∧ (∀ b ∈ bs, (enc b.2).depth ≤ 60) ∧ ∀ p, H p = none → Q (.ref p) (upd H p (.lst ((bs.mergeSort (PySem.W.dataLe false fun b => enc b.2)).map (·.1))))
theorem vals_each {us : List Value} {vs : List V} (r : Vals vs us) {β : Type} : ∀ (bs : List (V × β)), vs = bs.map (·.1) → PySem.W.EachIs (fun u (b : V × β) => RelV b.1 u) us bs := by
  induction r with
  | nil =>
    intro bs e
    cases bs with
    | nil => exact .nil
    | cons b r => cases e
  | cons h t ih =>
    intro bs e
    cases bs with
    | nil => cases e
    | cons b r => injection e with e1 e2; subst e1; exact .cons h (ih r e2)
theorem each_vals {β : Type} : ∀ {us : List Value} {bs : List (V × β)}, PySem.W.EachIs (fun u (b : V × β) => RelV b.1 u) us bs → Vals (bs.map (·.1)) us
  | _, _, .nil => .nil
  | _, _, .cons h t => .cons h (each_vals t)
theorem readsAll_bs {h : Heap} {β : Type} (enc : β → PyData) : ∀ {vs : List Value} {bs : List (V × β)} {as : List Addr}, ReadsAll h vs (bs.map fun b => enc b.2) as → PySem.W.EachIs (fun v (b : V × β) => ∃ as, Reads h v (enc b.2) as) vs bs := fun {vs bs as} r => PySem.W.readsAll_each (fun b : V × β => enc b.2) r
theorem cr_sortD {X : Cx} (hu : X.A.units + 64 < cLine) : CallR X (.builtin "sorted") (rSortD X.K) := by
  intro pins s σ H vs us Q I r h
  obtain ⟨a, β, bs, enc, rfl, hs, hd, hal, hk, hdep, q⟩ := h
  obtain ⟨its, rv, hl, hz⟩ := I.list hs
  rw [Vals.ref1 r]
  obtain ⟨as, hr⟩ := Dp.readsAll I _ _ _ hd rv
  have e1 := vals_each rv bs rfl
  refine PySem.W.sorted_data (enc := fun b : V × β => enc b.2) hl.isList e1 (readsAll_bs enc hr) hal hk (by rw [List.length_map] at hz; exact hz) (fun b hb => ?_) fun out ho eo => ?_
  · have := hdep b hb
    omega
  · have rv2 := each_vals eo
    have hlen : ((bs.mergeSort (PySem.W.dataLe false fun b => enc b.2)).map (·.1)).length ≤ sizeLine := by
      rw [List.length_map, List.length_mergeSort]
      rw [List.length_map] at hz
      exact hz
    obtain ⟨ep, he⟩ := PyProof.Rows.sortedAll_at s.heap its out.toArray
    exact ⟨.ref _, upd H (s.heap.objs.size + 1) (.lst _), I.laid (t' := s.toks) (fun _ _ => PyProof.Rows.sortedAll_old) (Nat.le_succ _) ⟨hlen, out, ep, rv2, he⟩, rfl, q _ (I.hok.fresh (Nat.le_succ _))⟩
/-! ### sorted, over data -/
def pyD (d : D) : PyData := (py d).getD .none
def leD (a b : D) : Bool := PySem.W.dataLe false pyD a b
def sortOk (ds : List D) : Bool := ds.all (fun d => (py d).isSome && decide ((pyD d).depth ≤ 60)) && ds.all (fun d => ds.all fun e => PySem.W.alike (pyD d) (pyD e)) &&
  (ds.all (fun d => match pyD d with
    | .tuple (_ :: _) => true
    | _ => false) || ds.all (fun d => match pyD d with
    | .tuple _ => false
    | .none => false
    | _ => true))
def cSorted (c : Bool) (st : Sto) (ds : List D) : MM D := match ds with
  | [x] => match lstOf st x with
    | some es => if sortOk es = true then mkL c (es.mergeSort leD) st else none
    | none => none
  | _ => none
theorem py_getD {ds : List D} (h : ∀ d ∈ ds, (py d).isSome = true) : pys ds = some (ds.map pyD) := by
  induction ds with
  | nil => rw [pys]; rfl
  | cons d r ih =>
    rw [pys, ih fun e he => h e (List.mem_cons_of_mem _ he)]
    obtain ⟨x, hx⟩ := Option.isSome_iff_exists.mp (h d List.mem_cons_self)
    rw [hx]
    show some (x :: r.map pyD) = some (pyD d :: r.map pyD)
    unfold pyD
    rw [hx]; rfl
theorem zip_fst : ∀ {vs : List V} {ds : List D}, vs.length = ds.length → (vs.zip ds).map (·.1) = vs ∧ (vs.zip ds).map (·.2) = ds
  | [], [], _ => ⟨rfl, rfl⟩
  | [], _ :: _, h => by cases h
  | _ :: _, [], h => by cases h
  | v :: vs, d :: ds, h => by
    obtain ⟨h1, h2⟩ := zip_fst (vs := vs) (ds := ds) (Nat.succ.inj h)
    exact ⟨congrArg _ h1, congrArg _ h2⟩
theorem reps_zip {K : PySem.W.Frag} {F : Hp} {α : List Addr} : ∀ {vs : List V} {ds : List D}, Reps K F α vs ds → ∀ p ∈ vs.zip ds, Rep K F α p.1 p.2
  | _, _, .nil, p, h => by simp at h
  | _, _, .cons r rs, p, h => by
    rcases List.mem_cons.mp h with rfl | h
    · exact r
    · exact reps_zip rs p h
theorem reps_of_all {K : PySem.W.Frag} {F : Hp} {α : List Addr} : ∀ {l : List (V × D)}, (∀ p ∈ l, Rep K F α p.1 p.2) → Reps K F α (l.map (·.1)) (l.map (·.2))
  | [], _ => .nil
  | p :: r, h => .cons (h p List.mem_cons_self) (reps_of_all fun q hq => h q (List.mem_cons_of_mem _ hq))
theorem rf_sorted {K : PySem.W.Frag} {E : XK} (c : Bool) : RfC K E (rSortD K) (cSorted c) := fun xs ds w Q o r hp => by
  unfold cSorted at hp
  split at hp
  · rename_i d
    obtain ⟨x, rfl, rx⟩ := r.one_inv
    cases h1 : lstOf w.st d with
    | none => simp only [h1] at hp; exact hp.elim
    | some es =>
      simp only [h1] at hp
      obtain ⟨hok, hp⟩ := post_ite hp
      obtain ⟨a, vs, rfl, hs, rs⟩ := lstOf_rep o rx h1
      obtain ⟨z1, z2⟩ := zip_fst rs.length
      unfold sortOk at hok
      simp only [Bool.and_eq_true, List.all_eq_true, decide_eq_true_eq] at hok
      obtain ⟨⟨a1, a2⟩, a3⟩ := hok
      have e2 : ((vs.zip es).map fun b => pyD b.2) = es.map pyD := by
        have := congrArg (List.map pyD) z2
        rw [List.map_map] at this
        exact this
      refine ⟨a, D, vs.zip es, pyD, rfl, by rw [z1]; exact hs, ?_, ?_, ?_, fun b hb => (a1 b.2 (List.of_mem_zip hb).2).2, fun p np => ?_⟩
      · rw [z1, e2]
        exact pys_rep o rs (py_getD fun d hd => (a1 d hd).1)
      · rw [e2]
        intro u hu v hv
        obtain ⟨d1, m1, rfl⟩ := List.mem_map.mp hu
        obtain ⟨d2, m2, rfl⟩ := List.mem_map.mp hv
        exact a2 d1 m1 d2 m2
      · rw [e2]
        rw [Bool.or_eq_true, List.all_eq_true, List.all_eq_true] at a3
        rcases a3 with a3 | a3
        · refine .inl fun u hu => ?_
          obtain ⟨d1, m1, rfl⟩ := List.mem_map.mp hu
          have := a3 d1 m1
          split at this
          · rename_i y l e; exact ⟨_, _, e⟩
          · cases this
        · refine .inr fun u hu => ?_
          obtain ⟨d1, m1, rfl⟩ := List.mem_map.mp hu
          have := a3 d1 m1
          split at this
          · cases this
          · cases this
          · rename_i g1 g2; exact ⟨fun e => g2 e, fun ys e => g1 ys e⟩
      · have hsort : ((vs.zip es).mergeSort (PySem.W.dataLe false fun b => pyD b.2)).map (·.2) = es.mergeSort leD := by
          have := List.map_mergeSort (r := PySem.W.dataLe false fun b : V × D => pyD b.2) (s := leD) (f := (·.2)) (l := vs.zip es) fun a _ b _ => rfl
          rw [this, z2]
        refine post_mkL o hp np ?_
        rw [← hsort]
        refine reps_of_all fun q hq => reps_zip rs q ?_
        exact (List.mergeSort_perm _ _).mem_iff.mp hq
  · exact hp.elim
end M

/-! A plain run ends well, with what is wanted of its end. -/
namespace M
open PySem L2
def Ens {τ : Type} (m : MM τ) (Q : τ → Sto → Prop) : Prop := ∃ x st, m = some (.ok x st) ∧ Q x st
section
variable {τ υ : Type} {Q : τ → Sto → Prop}
theorem ens_ret {x : τ} {st : Sto} (h : Q x st) : Ens (ret x st) Q := ⟨x, st, rfl, h⟩
theorem ens_bnd {m : MM υ} {k : υ → Sto → MM τ} (h : Ens m fun x st => Ens (k x st) Q) : Ens (bnd m k) Q := by
  obtain ⟨x, st, rfl, y, st2, e, q⟩ := h
  exact ⟨y, st2, e, q⟩
theorem ens_ite {C : Prop} [Decidable C] {m : MM τ} (c : C) (h : Ens m Q) : Ens (if C then m else none) Q := by rw [if_pos c]; exact h
theorem ens_if {C : Prop} [Decidable C] {m n : MM τ} (h1 : C → Ens m Q) (h2 : ¬ C → Ens n Q) : Ens (if C then m else n) Q := by
  by_cases c : C
  · rw [if_pos c]; exact h1 c
  · rw [if_neg c]; exact h2 c
theorem ens_cond {b : Bool} {m n : MM τ} (h1 : b = true → Ens m Q) (h2 : b = false → Ens n Q) : Ens (cond b m n) Q := by
  cases b with
  | true => exact h1 rfl
  | false => exact h2 rfl
theorem ens_lift {o : Option τ} {x : τ} {st : Sto} (e : o = some x) (h : Q x st) : Ens (lift o st) Q := by rw [e]; exact ⟨x, st, rfl, h⟩
theorem Ens.imp {m : MM τ} {Q' : τ → Sto → Prop} (h : Ens m Q) (k : ∀ x st, Q x st → Q' x st) : Ens m Q' := let ⟨x, st, e, q⟩ := h; ⟨x, st, e, k x st q⟩
theorem ens_noX {m : MM τ} (h : Ens m Q) : Ens (noX m) Q := by
  obtain ⟨x, st, rfl, q⟩ := h
  exact ⟨x, st, rfl, q⟩
theorem ens_eq {m n : MM τ} (e : m = n) (h : Ens n Q) : Ens m Q := by rw [e]; exact h
end
/-! statements: on, handed back -/
def EnsS (m : MM Fl) (N : Sl → Sto → Prop) (R : D → Sto → Prop) : Prop := Ens m fun f st => match f with
  | .nx sl => N sl st
  | .rt d => R d st
  | .bk _ => False
  | .ct _ => False
theorem ens_for {tg : FG} {body : FS} {N : Sl → Sto → Prop} {R : D → Sto → Prop} (I : Nat → Sl → Sto → Prop) : ∀ (ds : List D) (i : Nat) {sl : Sl} {st : Sto}, I i sl st →
    (∀ (j : Nat) d sl st, ds[j]? = some d → I (i + j) sl st → Ens (tg d sl st) fun sl st => EnsS (body sl st) (I (i + j + 1)) R) → (∀ sl st, I (i + ds.length) sl st → N sl st) → EnsS (forL tg body ds sl st) N R
  | [], i, sl, st, h0, hs, hd => ens_ret (hd sl st h0)
  | d :: ds, i, sl, st, h0, hs, hd => by
    refine ens_bnd ((hs 0 d sl st rfl h0).imp fun sl1 st1 h1 => ens_bnd (h1.imp fun f st2 h2 => ?_))
    have rest : ∀ sl2, I (i + 1) sl2 st2 → EnsS (forL tg body ds sl2 st2) N R := fun sl2 h => ens_for I ds (i + 1) h (fun j d' sl st e hI => by
      have e1 : i + 1 + j = i + (j + 1) := by omega
      rw [e1] at hI ⊢
      exact hs (j + 1) d' sl st e hI) (fun sl st hI => hd sl st (by
      have e1 : i + (d :: ds).length = i + 1 + ds.length := by rw [List.length_cons]; omega
      rw [e1]; exact hI))
    cases f with
    | nx sl2 => exact rest sl2 h2
    | ct sl2 => exact h2.elim
    | bk sl2 => exact h2.elim
    | rt d2 => exact ens_ret h2
theorem ens_for0 {tg : FG} {body : FS} {N : Sl → Sto → Prop} {R : D → Sto → Prop} (I : Nat → Sl → Sto → Prop) {ds : List D} {sl : Sl} {st : Sto} (h0 : I 0 sl st)
    (hs : ∀ (j : Nat) d sl st, ds[j]? = some d → I j sl st → Ens (tg d sl st) fun sl st => EnsS (body sl st) (I (j + 1)) R) (hd : ∀ sl st, I ds.length sl st → N sl st) : EnsS (forL tg body ds sl st) N R :=
  ens_for I ds 0 h0 (fun j d sl st e h => by
    rw [Nat.zero_add] at h ⊢
    exact hs j d sl st e h) (fun sl st h => hd sl st (by rw [Nat.zero_add] at h; exact h))
/-! calls -/
def iDs (xs : List Int) : List D := xs.map .int
theorem pfs_iDs : ∀ xs : List Int, pfs (iDs xs) = true
  | [] => by simp [iDs, pfs]
  | x :: r => by
    have := pfs_iDs r
    simp only [iDs, List.map_cons, pfs, pf, Bool.true_and] at this ⊢
    exact this
section
variable {Q : D → Sto → Prop} {n : Nat} {m : List D → Sto → MM D} {st : Sto}
theorem ens_B1 {r : List D} {c : Cell} (hl : r.length + 1 = n) (pr : pfs r = true) (pc : pfC c = true) (h : Ens (m (.ptr 0 :: r) [some c]) fun d cs => ∃ c' rest, cs = some c' :: rest ∧ pfC c' = true ∧ pf d = true ∧ Q d (some c' :: st)) : Ens (callB n m (.ptr 0 :: r) (some c :: st)) Q := by
  obtain ⟨d, cs, e, c', rest, rfl, p1, p2, q⟩ := h
  refine ⟨d, some c' :: st, ?_, q⟩
  unfold callB
  rw [if_pos (show (D.ptr 0 :: r).length = n from hl)]
  show (if pfs r = true ∧ pfC c = true then back1 0 (some c :: st) (m (.ptr 0 :: r) [some c]) else none) = _
  rw [if_pos ⟨pr, pc⟩, e]
  show (if pfC c' = true then outB d (some c' :: rest) 1 (some c' :: st) else none) = _
  rw [if_pos p1]
  unfold outB
  rw [if_pos p2]; rfl
def noPtr : List D → Bool
  | .ptr _ :: _ => false
  | _ => true
theorem callB_0 {ds : List D} (hl : ds.length = n) (hp : noPtr ds = true) (pr : pfs ds = true) : callB n m ds st = back0 st (m ds []) := by
  unfold callB
  rw [if_pos hl]
  cases ds with
  | nil => exact if_pos pr
  | cons d r =>
    cases d with
    | ptr i => cases hp
    | _ => exact if_pos pr
theorem ens_B0 {ds : List D} (hl : ds.length = n) (hp : noPtr ds = true) (pr : pfs ds = true) (h : Ens (m ds []) fun d cs => pf d = true ∧ Q d st) : Ens (callB n m ds st) Q := by
  obtain ⟨d, cs, e, p, q⟩ := h
  refine ⟨d, st, ?_, q⟩
  rw [callB_0 hl hp pr, e]
  show outB d cs 0 st = _
  unfold outB
  rw [if_pos p]; rfl
/-- a new cell handed back -/
theorem ens_B0c {ds : List D} (hl : ds.length = n) (hp : noPtr ds = true) (pr : pfs ds = true) (h : Ens (m ds []) fun d cs => ∃ j c, d = .ptr j ∧ cs[j]? = some (some c) ∧ pfC c = true ∧ Q (.ptr st.length) (st ++ [some c])) : Ens (callB n m ds st) Q := by
  obtain ⟨d, cs, e, j, c, rfl, e2, p, q⟩ := h
  refine ⟨_, _, ?_, q⟩
  rw [callB_0 hl hp pr, e]
  show outB (.ptr j) cs 0 st = _
  unfold outB
  rw [if_neg (by rw [pf]; exact Bool.false_ne_true)]
  show (if 0 ≤ j then _ else none) = _
  rw [if_pos (Nat.zero_le _)]
  simp only [e2]
  rw [if_pos p]; rfl
theorem ens_def {N k : Nat} {g : FS} {ds : List D} (sl : Sl) (e : ds.map some ++ List.replicate (N - k) none = sl) (h : EnsS (g sl st) (fun _ st => Q .non st) Q) : Ens (mDef N k g ds st) Q := by
  subst e
  refine ens_bnd (h.imp fun f st q => ?_)
  cases f with
  | nx _ => exact ens_ret q
  | rt d => exact ens_ret q
  | bk _ => exact q.elim
  | ct _ => exact q.elim
end
/-! statements -/
section
variable {N : Sl → Sto → Prop} {R : D → Sto → Prop} {sl : Sl} {st : Sto}
theorem ens_seq {g1 g2 : FS} (h : EnsS (g1 sl st) (fun sl st => EnsS (g2 sl st) N R) R) : EnsS (sSeq g1 g2 sl st) N R := by
  refine ens_bnd (h.imp fun f st q => ?_)
  cases f with
  | nx _ => exact q
  | rt d => exact ens_ret q
  | bk _ => exact q.elim
  | ct _ => exact q.elim
theorem ens_asg {f : FE} {i : Nat} (h : Ens (f sl st) fun d st => N (sl.set i (some d)) st) : EnsS (sAsg f (gNm i) sl st) N R := ens_bnd (h.imp fun _ _ q => ens_bnd (ens_ret (ens_ret q)))
theorem ens_drop {f : FE} (h : Ens (f sl st) fun _ st => N sl st) : EnsS (sDrop f sl st) N R := ens_bnd (h.imp fun _ _ q => ens_ret q)
theorem ens_retS {f : FE} (h : Ens (f sl st) fun d st => R d st) : EnsS (sRet f sl st) N R := ens_bnd (h.imp fun _ _ q => ens_ret q)
theorem ens_ifS {c : FT} {g1 g2 : FS} (h : Ens (c sl st) fun b st => (b = true → EnsS (g1 sl st) N R) ∧ (b = false → EnsS (g2 sl st) N R)) : EnsS (sIf c g1 g2 sl st) N R := ens_bnd (h.imp fun _ _ q => ens_cond q.1 q.2)
theorem ens_var {i : Nat} {d : D} {Q : D → Sto → Prop} (e : gv sl i = some d) (h : Q d st) : Ens (mVar i sl st) Q := ens_lift e h
theorem ens_C {d : D} {Q : D → Sto → Prop} (h : Q d st) : Ens (mC d sl st) Q := ens_ret h
theorem ens_next (h : N sl st) : EnsS (sNext sl st) N R := ens_ret h
end
/-! expressions -/
section
variable {Q : D → Sto → Prop} {P : List D → Sto → Prop} {B : Bool → Sto → Prop} {sl : Sl} {st : Sto} {f f1 f2 f3 : FE} {g h : FA} {c1 c2 : FT} {N : Sl → Sto → Prop} {R : D → Sto → Prop}
theorem ens_red {τ : Type} {Q : τ → Sto → Prop} {m : MM τ} {x : τ} {st : Sto} (e : m = ret x st) (h : Q x st) : Ens m Q := by rw [e]; exact ⟨x, st, rfl, h⟩
theorem ens_bin {p : Sto → D → D → MM D} (q : Ens (f1 sl st) fun x st => Ens (f2 sl st) fun y st => Ens (p st x y) Q) : Ens (mBin p f1 f2 sl st) Q := ens_bnd (q.imp fun _ _ q => ens_bnd q)
theorem ens_un {p : Sto → D → MM D} (q : Ens (f1 sl st) fun x st => Ens (p st x) Q) : Ens (mUn p f1 sl st) Q := ens_bnd q
theorem ens_CB {p : Sto → List D → MM D} (q : Ens (g sl st) fun ds st => Ens (p st ds) Q) : Ens (mCB p g sl st) Q := ens_bnd q
theorem ens_call {p : List D → Sto → MM D} (q : Ens (g sl st) fun ds st => Ens (p ds st) Q) : Ens (mCall p g sl st) Q := ens_bnd q
theorem ens_nil (q : P [] st) : Ens (mNil sl st) P := ens_ret q
theorem ens_cons (q : Ens (f sl st) fun x st => Ens (g sl st) fun xs st => P (x :: xs) st) : Ens (mCons f g sl st) P := ens_bnd (q.imp fun _ _ q => ens_bnd (q.imp fun _ _ q => ens_ret q))
theorem ens_tup (q : Ens (g sl st) fun ds st => ds.length ≤ 1000 ∧ Q (.tup ds) st) : Ens (mTup g sl st) Q := ens_bnd (q.imp fun _ _ q => ens_ite q.1 (ens_ret q.2))
theorem ens_lst (q : Ens (g sl st) fun ds st => ds.length ≤ 1000 ∧ Q (.lst ds) st) : Ens (mLst false g sl st) Q := ens_bnd (q.imp fun _ _ q => ens_ite q.1 (ens_ret q.2))
theorem ens_lstC (q : Ens (g sl st) fun ds st => ds.length ≤ 1000 ∧ Q (.ptr st.length) (st ++ [some (.lst ds)])) : Ens (mLst true g sl st) Q := ens_bnd (q.imp fun _ _ q => ens_ite q.1 (ens_ret q.2))
theorem ens_BM {T : String} {p : Sto → D → List D → MM D} (q : Ens (f sl st) fun x st => tyOk T st x = true ∧ Ens (g sl st) fun ds st => Ens (p st x ds) Q) : Ens (mBM T p f g sl st) Q := ens_bnd (q.imp fun _ _ q => ens_ite q.1 (ens_bnd q.2))
theorem ens_BM0 {T : String} {p : Sto → D → List D → MM D} (q : Ens (f sl st) fun x st => tyOk T st x = true ∧ Ens (p st x []) Q) : Ens (mBM0 T p f sl st) Q := ens_bnd (q.imp fun _ _ q => ens_ite q.1 q.2)
theorem ens_NP {Q : Option Int → Sto → Prop} (q : Q none st) : Ens (mNoPart sl st) Q := ens_ret q
theorem ens_PA {Q : Option Int → Sto → Prop} (q : Ens (f sl st) fun x st => ∃ i, x = .int i ∧ Q (some i) st) : Ens (mPart f sl st) Q := ens_bnd (q.imp fun _ _ ⟨_, e, q⟩ => by subst e; exact ens_ret q)
theorem ens_SL {c : Bool} {l r : FO} (q : Ens (f sl st) fun x st => Ens (l sl st) fun lo st => Ens (r sl st) fun hi st => Ens (gSl c st x lo hi) Q) : Ens (mSl c f l r sl st) Q := ens_bnd (q.imp fun _ _ q => ens_bnd (q.imp fun _ _ q => ens_bnd q))
theorem ens_DG (q : Ens (f1 sl st) fun x st => Ens (f2 sl st) fun y st => ∃ d, dGet st x y = some (some d) ∧ Q d st) : Ens (mDGet f1 f2 sl st) Q := ens_bnd (q.imp fun _ _ q => ens_bnd (q.imp fun _ _ ⟨_, e, q⟩ => by simp only [e]; exact ens_ret q))
theorem ens_DG2 (q : Ens (f1 sl st) fun x st => mDGet2.isDct st x = true ∧ Ens (f2 sl st) fun y st => Ens (f3 sl st) fun z st => ∃ r, dGet st x y = some r ∧ Q (r.getD z) st) : Ens (mDGet2 f1 f2 f3 sl st) Q := ens_bnd (q.imp fun _ _ ⟨e, q⟩ => by
  rw [e]
  exact ens_bnd (q.imp fun _ _ q => ens_bnd (q.imp fun _ _ ⟨_, e, q⟩ => by simp only [e]; exact ens_ret q)))
theorem ens_DI (q : Ens (f1 sl st) fun y st => Ens (f2 sl st) fun x st => ∃ r, dGet st x y = some r ∧ Q (.bl r.isSome) st) : Ens (mDIn false f1 f2 sl st) Q := ens_bnd (q.imp fun _ _ q => ens_bnd (q.imp fun _ _ ⟨_, e, q⟩ => by simp only [e]; exact ens_ret q))
theorem ens_KE (q : Ens (f sl st) fun x st => ∃ ds, keysD st x = some ds ∧ Q (.lst ds) st) : Ens (mKeys false f sl st) Q := ens_bnd (q.imp fun _ _ ⟨_, e, q⟩ => by simp only [e]; exact ens_ret q)
theorem ens_MD (q : Ens (f1 sl st) fun x st => Ens (f2 sl st) fun d st => ∃ is, lstOf st x = some (iDs is) ∧ Q (if is = [] then d else .int (maxOf is)) st) : Ens (mMaxD f1 f2 sl st) Q := ens_bnd (q.imp fun _ _ q => ens_bnd (q.imp fun _ _ ⟨is, e, q⟩ => by
  rw [e]
  show Ens (match intsOf (is.map .int) with
    | some is => if is = [] then _ else _
    | none => none) Q
  rw [intsOf_map]
  by_cases z : is = []
  · rw [if_pos z] at q; simp only [if_pos z]; exact ens_ret q
  · rw [if_neg z] at q; simp only [if_neg z]; exact ens_ret q))
theorem ens_NK (q : Q (.ptr st.length) (st ++ [some (.dct [])])) : Ens (mDNewK sl st) Q := ens_ret q
theorem ens_NT (q : Q (.ptr st.length) (st ++ [some (.dcT [])])) : Ens (mDNewT sl st) Q := ens_ret q
theorem ens_B (q : Ens (f sl st) fun x st => ∃ b, x = .bl b ∧ B b st) : Ens (mB f sl st) B := ens_bnd (q.imp fun _ _ ⟨_, e, q⟩ => by subst e; exact ens_ret q)
theorem ens_TR (q : Ens (f sl st) fun x st => ∃ b, truD st x = some b ∧ B b st) : Ens (mTru f sl st) B := ens_bnd (q.imp fun _ _ ⟨_, e, q⟩ => ens_lift e q)
theorem ens_AND (q : Ens (c1 sl st) fun b st => (b = true → Ens (c2 sl st) B) ∧ (b = false → B false st)) : Ens (mAnd c1 c2 sl st) B := ens_bnd (q.imp fun _ _ q => ens_cond q.1 fun e => ens_ret (q.2 e))
theorem ens_OR (q : Ens (c1 sl st) fun b st => (b = true → B true st) ∧ (b = false → Ens (c2 sl st) B)) : Ens (mOr c1 c2 sl st) B := ens_bnd (q.imp fun _ _ q => ens_cond (fun e => ens_ret (q.1 e)) q.2)
theorem ens_NOT (q : Ens (c1 sl st) fun b st => B (!b) st) : Ens (mNot c1 sl st) B := ens_bnd (q.imp fun _ _ q => ens_ret q)
theorem ens_ANDV (q : Ens (f1 sl st) fun x st => ∃ b, x = .bl b ∧ (b = true → Ens (f2 sl st) Q) ∧ (b = false → Q (.bl false) st)) : Ens (mAndV f1 f2 sl st) Q := ens_bnd (q.imp fun _ _ ⟨_, e, q⟩ => by subst e; exact ens_cond q.1 fun e => ens_ret (q.2 e))
theorem ens_NOTV (q : Ens (f1 sl st) fun x st => ∃ b, x = .bl b ∧ Q (.bl (!b)) st) : Ens (mNotV f1 sl st) Q := ens_bnd (q.imp fun _ _ ⟨_, e, q⟩ => by subst e; exact ens_ret q)
/-- a comprehension that takes every item -/
theorem ens_lcY {i : Nat} {fe : FE} {sl : Sl} {st : Sto} (F : D → D) {Q : List D → Sto → Prop} : ∀ (ds es : List D), es.length + ds.length ≤ sizeLine → (∀ d ∈ ds, fe (sl.set i (some d)) st = ret (F d) st) → Q (es ++ ds.map F) st → Ens (lcL (gNm i) tYesD fe sl ds es st) Q
  | [], es, _, _, q => ens_ret (by rw [List.map_nil, List.append_nil] at q; exact q)
  | d :: ds, es, hl, h, q => by
    rw [List.length_cons] at hl
    show Ens (bnd (fe (sl.set i (some d)) st) _) Q
    rw [h d List.mem_cons_self]
    show Ens (if es.length < sizeLine then _ else none) Q
    refine ens_ite (by omega) (ens_lcY F ds _ (by rw [List.length_append, List.length_singleton]; omega) (fun e he => h e (List.mem_cons_of_mem _ he)) ?_)
    rw [List.append_assoc]
    exact q
theorem ens_LC {it : FA} {gt : FG} {tt : FT} {fe : FE} {vs : List Nat} (q : Ens (it sl st) fun ds st => Ens (lcL gt tt fe (wipeD sl vs) ds [] st) fun es st => Q (.lst es) st) : Ens (mLc false it gt tt fe vs sl st) Q := ens_bnd (q.imp fun _ _ q => ens_bnd (ens_noX (q.imp fun _ _ q => ens_ret q)))
/-! walks -/
theorem ens_FOR {it : FA} {tg : FG} {body : FS} (q : Ens (it sl st) fun ds st => EnsS (forL tg body ds sl st) N R) : EnsS (sFor it tg body sl st) N R := ens_bnd q
theorem ens_R1 (q : Ens (g sl st) fun ds st => ∃ j : Int, ds = [.int j] ∧ (-(2 ^ 62) ≤ j ∧ j < 2 ^ 62) ∧ P (rngD 0 j.toNat) st) : Ens (iR1 g sl st) P := ens_bnd (q.imp fun _ _ ⟨_, e, c, q⟩ => by subst e; exact ens_ite c (ens_ret q))
theorem ens_IA (q : Ens (f sl st) fun d st => ∃ ds, (d = .lst ds ∨ d = .tup ds ∨ (∃ x, d = .str x ∧ ds = chrD x) ∨ ∃ ns, d = .scr ns ∧ ds = iDs ns) ∧ P ds st) : Ens (iAny f sl st) P := ens_bnd (q.imp fun _ _ ⟨_, e, q⟩ => by
  rcases e with rfl | rfl | ⟨x, rfl, rfl⟩ | ⟨x, rfl, rfl⟩
  · exact ens_ret q
  · exact ens_ret q
  · exact ens_ret q
  · exact ens_ret q)
theorem ens_IE (q : Ens (g sl st) fun ds st => ∃ es, ds = [.lst es] ∧ P (enumD es) st) : Ens (iE g sl st) P := ens_bnd (q.imp fun _ _ ⟨_, e, q⟩ => by subst e; exact ens_ret q)
/-! more statements -/
theorem ens_AUG {i : Nat} {op : Sto → D → D → MM D} {x : D} (e : gv sl i = some x) (q : Ens (f sl st) fun y st => Ens (op st x y) fun z st => N ((sl.set i (some z))) st) : EnsS (sAug i f op sl st) N R := by
  show EnsS (match gv sl i with
    | some x => bnd (f sl st) fun y st => bnd (op st x y) fun z st => ret (.nx (sl.set i (some z))) st
    | none => none) N R
  rw [e]
  exact ens_bnd (q.imp fun _ _ q => ens_bnd (q.imp fun _ _ q => ens_ret q))
theorem ens_PAR {i j : Nat} (q : Ens (g sl st) fun ds st => ∃ x y, ds = [x, y] ∧ N (((sl.set i (some x)).set j (some y))) st) : EnsS (sPar i j g sl st) N R := ens_bnd (q.imp fun _ _ ⟨_, _, e, q⟩ => by subst e; exact ens_ret q)
theorem ens_FRZ {i : Nat} {p : FS} {sl2 : Sl} {st2 : Sto} (e : frzAt i sl st = some (sl2, st2)) (q : EnsS (p sl2 st2) N R) : EnsS (sFrz i p sl st) N R := by
  unfold sFrz; rw [e]; exact q
theorem ens_DP (q : Ens (f3 sl st) fun v st => Ens (f1 sl st) fun x st => Ens (f2 sl st) fun y st => ∃ st2, dPut st x y v = some st2 ∧ N sl st2) : EnsS (sDPut f1 f2 f3 sl st) N R := ens_bnd (q.imp fun _ _ q => ens_bnd (q.imp fun _ _ q => ens_bnd (q.imp fun _ _ ⟨_, e, q⟩ => by simp only [e]; exact ens_ret q)))
/-! what is built in -/
theorem ens_I {C : Int → Int → Prop} [∀ i j, Decidable (C i j)] {p : Int → Int → D} {i j : Int} (c : C i j) (q : Q (p i j) st) : Ens (gI C p st (.int i) (.int j)) Q := ens_ite c (ens_ret q)
theorem ens_len {x : D} {ds : List D} (e : lstOf st x = some ds) (q : Q (.int ds.length) st) : Ens (cLen st [x]) Q := by
  cases x with
  | lst _ => cases e; exact ens_ret q
  | scr _ => cases e; exact ens_ret q
  | ptr _ =>
    show Ens (match lstOf st _ with
      | some xs => ret (.int xs.length) st
      | none => none) Q
    rw [e]; exact ens_ret q
  | _ => cases e
theorem ens_ix {x d : D} {ds : List D} {i : Int} (e : lstOf st x = some ds) (h : atI ds i = some d) (q : Q d st) : Ens (gIx st x (.int i)) Q := by
  cases x with
  | lst _ => cases e; exact ens_lift h q
  | scr _ => cases e; exact ens_lift h q
  | ptr _ =>
    show Ens (match lstOf st _ with
      | some ds => lift (atI ds i) st
      | none => none) Q
    rw [e]; exact ens_lift h q
  | _ => cases e
theorem ens_ixT {d : D} {ds : List D} {i : Int} (h : atI ds i = some d) (q : Q d st) : Ens (gIx st (.tup ds) (.int i)) Q := ens_lift h q
theorem ens_gsl {c : Bool} {x : D} {ds : List D} {lo hi : Option Int} (e : lstOf st x = some ds) (q : Ens (mkL c (cutD ds lo hi) st) Q) : Ens (gSl c st x lo hi) Q := by
  cases x with
  | lst _ => cases e; exact q
  | scr _ => cases e; exact q
  | ptr _ =>
    show Ens (match lstOf st _ with
      | some ds => mkL c (cutD ds lo hi) st
      | none => none) Q
    rw [e]; exact q
  | _ => cases e
theorem ens_eqI {i j : Int} (q : Q (.bl (decide (i = j))) st) : Ens (gEq st (.int i) (.int j)) Q := by
  have e : decide (V.int i = V.int j) = decide (i = j) := by by_cases z : i = j <;> simp [z]
  rw [← e] at q
  exact ens_ret q
theorem ens_neI {i j : Int} (q : Q (.bl (!decide (i = j))) st) : Ens (gNe st (.int i) (.int j)) Q := by
  have e : decide (V.int i = V.int j) = decide (i = j) := by by_cases z : i = j <;> simp [z]
  rw [← e] at q
  exact ens_ret q
theorem ens_app {i : Nat} {ds : List D} {y : D} (e : st[i]? = some (some (.lst ds))) (h : ds.length < sizeLine) (q : Q .non (st.set i (some (.lst (ds ++ [y]))))) : Ens (gAppend st (.ptr i) [y]) Q := by
  have e2 : cellL st i = some ds := by unfold cellL; rw [e]
  show Ens (match cellL st i with
    | some ds => if ds.length < sizeLine then putL i (ds ++ [y]) .non st else none
    | none => none) Q
  rw [e2]
  exact ens_ite h (ens_ret q)
theorem ens_addL {c : Bool} {x y : D} {ds es : List D} (e1 : lstOn st x = some ds) (e2 : lstOn st y = some es) (h : ds.length + es.length ≤ sizeLine) (q : Ens (mkL c (ds ++ es) st) Q) : Ens (gAdd c st x y) Q := by
  have main : Ens (match lstOn st x, lstOn st y with
    | some ds, some es => if ds.length + es.length ≤ sizeLine then mkL c (ds ++ es) st else none
    | _, _ => none) Q := by
    rw [e1, e2]; exact ens_ite h q
  cases x with
  | lst _ => exact main
  | ptr _ => exact main
  | _ => cases e1
theorem ens_sort {x : D} {ds : List D} (e : lstOf st x = some ds) (h : sortOk ds = true) (q : Q (.lst (ds.mergeSort leD)) st) : Ens (cSorted false st [x]) Q := by
  show Ens (match lstOf st x with
    | some es => if sortOk es = true then mkL false (es.mergeSort leD) st else none
    | none => none) Q
  rw [e]
  exact ens_ite h (ens_ret q)
theorem ens_maxL {x : D} {is : List Int} (e : lstOf st x = some (iDs is)) (h : is ≠ []) (q : Q (.int (maxOf is)) st) : Ens (cMaxL st [x]) Q := by
  show Ens (match (lstOf st x).bind intsOf with
    | some is => if is = [] then none else ret (.int (maxOf is)) st
    | none => none) Q
  rw [e]
  show Ens (match intsOf (is.map .int) with
    | some is => if is = [] then none else ret (.int (maxOf is)) st
    | none => none) Q
  rw [intsOf_map]
  show Ens (if is = [] then none else ret (.int (maxOf is)) st) Q
  rw [if_neg h]; exact ens_ret q
theorem iDs_len (xs : List Int) : (iDs xs).length = xs.length := List.length_map ..
theorem iDs_app (xs ys : List Int) : iDs (xs ++ ys) = iDs xs ++ iDs ys := List.map_append ..
theorem iDs_get (xs : List Int) (i : Nat) : (iDs xs)[i]? = (xs[i]?).map .int := List.getElem?_map ..
theorem at_nat {α : Type} {ds : List α} {i : Nat} {d : α} (h : ds[i]? = some d) : atI ds (i : Int) = some d := by
  have hi : i < ds.length := by
    by_cases z : i < ds.length
    · exact z
    · rw [List.getElem?_eq_none (by omega)] at h; cases h
  unfold atI ixN
  rw [if_pos (Int.natCast_nonneg _), if_pos (Int.ofNat_lt.mpr hi)]
  exact h
theorem at_last {α : Type} {ds : List α} {d : α} (h : ds[ds.length - 1]? = some d) : atI ds (-1 : Int) = some d := by
  have hi : ds.length - 1 < ds.length := by
    by_cases z : ds.length - 1 < ds.length
    · exact z
    · rw [List.getElem?_eq_none (by omega)] at h; cases h
  unfold atI ixN
  rw [if_neg (by decide), if_pos (by omega)]
  show ds[((-1 : Int) + (ds.length : Int)).toNat]? = some d
  have : ((-1 : Int) + (ds.length : Int)).toNat = ds.length - 1 := by omega
  rw [this]; exact h
end
end M

namespace G
open PySem PySem.Spec L2 M
def top (i : Nat) : Stmt := PySem.Challenge.pw_galleypapers_k32_rows_of_glyphs.main.body.getD i (.Pass ⟨0, 0, 0, 0⟩)
structure Tx (mg : Str → Option Value) : Prop where
  z_enumerate : mg "enumerate" = none
  z_max : mg "max" = none
  z_range : mg "range" = none
  z_int : mg "int" = none
  z_len : mg "len" = none
  z_list : mg "list" = none
  z_sorted : mg "sorted" = none
  z_min : mg "min" = none
  z_isinstance : mg "isinstance" = none
  z_bool : mg "bool" = none
  z_str : mg "str" = none
  z_tuple : mg "tuple" = none
section
variable {P : Program} {w : World} {K : PySem.W.Frag} {mg : Str → Option Value} {base : Heap}
abbrev s_positions : Stmt := top 1
theorem sc_positions : FnScope ["font", "glyphs", "sizes", "kerns", "edges", "edge", "at", "glyph"] ["font", "glyphs"] (defScope s_positions) := ⟨rfl, rfl, rfl, by decide +kernel, rfl, by decide +kernel, by decide +kernel⟩
def b_positions : FS :=
    (sSeq (sPar 2 3 (mCons (mBin gIx (mVar 0) (mC (.int 2))) (mCons (mBin gIx (mVar 0) (mC (.int 3))) mNil)))
    (sSeq (sAsg (mLst true mNil) (gNm 4))
    (sSeq (sAsg (mC (.int 0)) (gNm 5))
    (sSeq (sFor (iE (mCons (mVar 1) mNil)) (gTp 2 (gsCons (gNm 6) (gsCons (gNm 7) gsNil)))
    (sSeq (sIf (mB (mBin gGt (mVar 6) (mC (.int 0))))
    (sAug 5 (mDGet2 (mVar 3) (mTup (mCons (mBin gIx (mVar 1) (mBin M.gSub (mVar 6) (mC (.int 1)))) (mCons (mVar 7) mNil))) (mC (.int 0))) (gI0 fun i j => .int (i + j)))
    sNext)
    (sSeq (sDrop (mBM "list" gAppend (mVar 4) (mCons (mVar 5) mNil)))
    (sAug 5 (mBin gIx (mDGet (mVar 2) (mVar 7)) (mC (.int 0))) (gI0 fun i j => .int (i + j))))))
    (sSeq (sDrop (mBM "list" gAppend (mVar 4) (mCons (mVar 5) mNil)))
    (sFrz 4 (sRet (mVar 4))))))))
def m_positions : List D → Sto → MM D := mDef 8 2 b_positions
theorem ok_positions {f : Addr} {fd : FuncData} (F : Fun K "positions" "positions" s_positions f fd) (T : Tx mg)  :
    FnOk P w K mg base CX0 1 f fd ["font", "glyphs"] (spM K 2 m_positions) :=
  fn_m F sc_positions fun cdv A outer s H E E' hr =>
    (mss_cons (ms_par (i := 2) (j := 3) rfl sc_positions.nd (ma_cons (me_ix (me_var 0) me_int) (ma_cons (me_ix (me_var 0) me_int) ma_nil)) (by decide))
    (mss_cons (ms_set (i := 4) sc_positions.nd (me_lst true ma_nil))
    (mss_cons (ms_set (i := 5) sc_positions.nd me_int)
    (mss_cons (ms_for PassesOwn.never rfl (mi_enum (ma_cons (me_var 1) ma_nil) T.z_enumerate) (mg_tup rfl (mgs_cons (mg_name (i := 6) sc_positions.nd) (mgs_cons (mg_name (i := 7) sc_positions.nd) mgs_nil)))
    (mss_cons (ms_if (mt_cmp opr_gt rf_cmp (me_var 6) me_int (nomark _))
    (mss_one (ms_aug (i := 5) sc_positions.nd (me_dget2 (hu_of hr) (me_var 3) (me_tup (ma_cons (me_ix (me_var 1) (me_sub (me_var 6) me_int)) (ma_cons (me_var 7) ma_nil))) me_int ⟨by rfl, by rfl, by rfl, by rfl⟩) ip_add rip_I))
    mss_nil)
    (mss_cons (ms_expr (me_append (me_var 4) (ma_cons (me_var 5) ma_nil)))
    (mss_one (ms_aug (i := 5) sc_positions.nd (me_ix (me_dget (hu_of hr) (me_var 2) (me_var 7)) me_int) ip_add rip_I)))))
    (mss_cons (ms_expr (me_append (me_var 4) (ma_cons (me_var 5) ma_nil)))
    (mss_frz 4 (mss_one (ms_ret (me_var 4)))))))))
abbrev s_width : Stmt := top 2
theorem sc_width : FnScope ["font", "glyphs"] ["font", "glyphs"] (defScope s_width) := ⟨rfl, rfl, rfl, by decide +kernel, rfl, by decide +kernel, by decide +kernel⟩
def b_width : FS :=
    (sRet (mBin gIx (mCall (callB 2 m_positions) (mCons (mVar 0) (mCons (mVar 1) mNil))) (mUn gNeg (mC (.int 1)))))
def m_width : List D → Sto → MM D := mDef 2 2 b_width
theorem ok_width {f : Addr} {fd : FuncData} (F : Fun K "width" "width" s_width f fd) (T : Tx mg) (C_positions : Cal P w K mg base 1 "positions" ["font", "glyphs"] m_positions) :
    FnOk P w K mg base CX0 2 f fd ["font", "glyphs"] (spM K 2 m_width) :=
  fn_m F sc_width fun cdv A outer s H E E' hr =>
    (mss_one (ms_ret (me_ix (me_cal C_positions callf_B (hr.mono (by decide)) (ma_cons (me_var 0) (ma_cons (me_var 1) ma_nil))) (me_neg me_int))))
abbrev s_extents : Stmt := top 3
theorem sc_extents : FnScope ["font", "glyphs", "sizes", "height", "glyph", "depth"] ["font", "glyphs"] (defScope s_extents) := ⟨rfl, rfl, rfl, by decide +kernel, rfl, by decide +kernel, by decide +kernel⟩
def b_extents : FS :=
    (sSeq (sAsg (mBin gIx (mVar 0) (mC (.int 2))) (gNm 2))
    (sSeq (sAsg (mMaxD (mLc false (iAny (mVar 1)) (gNm 4) tYesD (mBin gIx (mDGet (mVar 2) (mVar 4)) (mC (.int 1))) [4]) (mC (.int 0))) (gNm 3))
    (sSeq (sAsg (mMaxD (mLc false (iAny (mVar 1)) (gNm 4) tYesD (mBin gIx (mDGet (mVar 2) (mVar 4)) (mC (.int 2))) [4]) (mC (.int 0))) (gNm 5))
    (sRet (mTup (mCons (mVar 3) (mCons (mVar 5) mNil)))))))
def m_extents : List D → Sto → MM D := mDef 6 2 b_extents
theorem ok_extents {f : Addr} {fd : FuncData} (F : Fun K "extents" "extents" s_extents f fd) (T : Tx mg)  :
    FnOk P w K mg base CX0 1 f fd ["font", "glyphs"] (spM K 2 m_extents) :=
  fn_m F sc_extents fun cdv A outer s H E E' hr =>
    (mss_cons (ms_set (i := 2) sc_extents.nd (me_ix (me_var 0) me_int))
    (mss_cons (ms_set (i := 3) sc_extents.nd (me_maxD rfl T.z_max (me_lc (own := [("glyph", 4)]) (g := gName 4) (E' := E') false rfl sc_extents.nd (mi_any (me_var 1)) (blkOk_by (own := [("glyph", 4)]) (N := ["font", "glyphs", "sizes", "height", "glyph", "depth"]) (sc := defScope s_extents) (by decide +kernel)) (fun _ _ _ _ _ => (pg_name (i := 4) sc_extents.nd rfl (Or.inl rfl))) (rgw_name 4) (fun _ _ _ _ _ => (me_ix (me_dget (hu_of hr) (me_var 2) (me_var 4)) me_int))) me_int))
    (mss_cons (ms_set (i := 5) sc_extents.nd (me_maxD rfl T.z_max (me_lc (own := [("glyph", 4)]) (g := gName 4) (E' := E') false rfl sc_extents.nd (mi_any (me_var 1)) (blkOk_by (own := [("glyph", 4)]) (N := ["font", "glyphs", "sizes", "height", "glyph", "depth"]) (sc := defScope s_extents) (by decide +kernel)) (fun _ _ _ _ _ => (pg_name (i := 4) sc_extents.nd rfl (Or.inl rfl))) (rgw_name 4) (fun _ _ _ _ _ => (me_ix (me_dget (hu_of hr) (me_var 2) (me_var 4)) me_int))) me_int))
    (mss_one (ms_ret (me_tup (ma_cons (me_var 3) (ma_cons (me_var 5) ma_nil))))))))
abbrev s_law_numbers : Stmt := top 5
theorem sc_law_numbers : FnScope ["script", "row", "cell", "k", "seed"] ["script"] (defScope s_law_numbers) := ⟨rfl, rfl, rfl, by decide +kernel, rfl, by decide +kernel, by decide +kernel⟩
def b_law_numbers : FS :=
    (sSeq (sAsg (mLst true mNil) (gNm 1))
    (sSeq (sFor (iAny (mSl false (mVar 0) mNoPart (mPart (mC (.int 63))))) (gNm 2)
    (sIf (mB (mBin gGe (mVar 2) (mBin M.gPow (mC (.int 10)) (mC (.int 18)))))
    (sFor (iR1 (mCons (mC (.int 60)) mNil)) (gNm 3)
    (sIf (mB (mBin gGt (mVar 2) (mC (.int 0))))
    (sSeq (sDrop (mBM "list" gAppend (mVar 1) (mCons (mBin M.gMod (mCB cInt (mCons (mVar 2) mNil)) (mC (.int 1000))) mNil)))
    (sAsg (mBin M.gDiv (mVar 2) (mC (.int 1000))) (gNm 2)))
    sNext))
    (sSeq (sAsg (mBin M.gMod (mCB cInt (mCons (mBin (gAdd false) (mBin M.gMul (mVar 2) (mC (.int 48271))) (mC (.int 11))) mNil)) (mC (.int 2147483647))) (gNm 4))
    (sFor (iR1 (mCons (mC (.int 9)) mNil)) (gNm 3)
    (sSeq (sAsg (mBin M.gMod (mCB cInt (mCons (mBin (gAdd false) (mBin (gAdd false) (mBin M.gMul (mVar 4) (mC (.int 69621))) (mBin M.gMul (mC (.int 7)) (mVar 3))) (mC (.int 1))) mNil)) (mC (.int 2147483647))) (gNm 4))
    (sDrop (mBM "list" gAppend (mVar 1) (mCons (mBin M.gMod (mCB cInt (mCons (mBin (gAdd false) (mBin M.gMul (mBin M.gMod (mCB cInt (mCons (mVar 4) mNil)) (mC (.int 1000003))) (mC (.int 7919))) (mBin M.gDiv (mVar 4) (mC (.int 1009)))) mNil)) (mC (.int 1000))) mNil))))))))
    (sSeq (sAsg (mSl true (mVar 1) mNoPart (mPart (mC (.int 300)))) (gNm 1))
    (sSeq (sDrop (mBM0 "list" gReverse (mVar 1)))
    (sRet (mVar 1))))))
def m_law_numbers : List D → Sto → MM D := mDef 5 1 b_law_numbers
theorem ok_law_numbers {f : Addr} {fd : FuncData} (F : Fun K "_law_numbers" "_law_numbers" s_law_numbers f fd) (T : Tx mg)  :
    FnOk P w K mg base CX0 1 f fd ["script"] (spM K 1 m_law_numbers) :=
  fn_m F sc_law_numbers fun cdv A outer s H E E' hr =>
    (mss_cons (ms_set (i := 1) sc_law_numbers.nd (me_lst true ma_nil))
    (mss_cons (ms_for PassesOwn.never rfl (mi_any (me_sl false (me_var 0) mo_none (mo_some me_int))) (mg_name (i := 2) sc_law_numbers.nd)
    (mss_one (ms_if (mt_cmp opr_ge rf_cmp (me_var 2) (me_pow me_int me_int) (nomark _))
    (mss_one (ms_for PassesOwn.never rfl (mi_range1 (ma_cons me_int ma_nil) T.z_range) (mg_name (i := 3) sc_law_numbers.nd)
    (mss_one (ms_if (mt_cmp opr_gt rf_cmp (me_var 2) me_int (nomark _))
    (mss_cons (ms_expr (me_append (me_var 1) (ma_cons (me_mod (me_callTy call_int1 rf_int T.z_int (by decide +kernel) (ma_cons (me_var 2) ma_nil)) me_int) ma_nil)))
    (mss_one (ms_set (i := 2) sc_law_numbers.nd (me_div (me_var 2) me_int))))
    mss_nil))))
    (mss_cons (ms_set (i := 4) sc_law_numbers.nd (me_mod (me_callTy call_int1 rf_int T.z_int (by decide +kernel) (ma_cons (me_add false (me_mul (me_var 2) me_int) me_int) ma_nil)) me_int))
    (mss_one (ms_for PassesOwn.never rfl (mi_range1 (ma_cons me_int ma_nil) T.z_range) (mg_name (i := 3) sc_law_numbers.nd)
    (mss_cons (ms_set (i := 4) sc_law_numbers.nd (me_mod (me_callTy call_int1 rf_int T.z_int (by decide +kernel) (ma_cons (me_add false (me_add false (me_mul (me_var 4) me_int) (me_mul me_int (me_var 3))) me_int) ma_nil)) me_int))
    (mss_one (ms_expr (me_append (me_var 1) (ma_cons (me_mod (me_callTy call_int1 rf_int T.z_int (by decide +kernel) (ma_cons (me_add false (me_mul (me_mod (me_callTy call_int1 rf_int T.z_int (by decide +kernel) (ma_cons (me_var 4) ma_nil)) me_int) me_int) (me_div (me_var 4) me_int)) ma_nil)) me_int) ma_nil)))))))))))
    (mss_cons (ms_set (i := 1) sc_law_numbers.nd (me_sl true (me_var 1) mo_none (mo_some me_int)))
    (mss_cons (ms_expr (me_reverse (me_var 1)))
    (mss_one (ms_ret (me_var 1)))))))
abbrev s_law_pick : Stmt := top 6
theorem sc_law_pick : FnScope ["feed", "many"] ["feed", "many"] (defScope s_law_pick) := ⟨rfl, rfl, rfl, by decide +kernel, rfl, by decide +kernel, by decide +kernel⟩
def b_law_pick : FS :=
    (sSeq (sIf (mB (mBin gEq (mCB cLen (mCons (mVar 0) mNil)) (mC (.int 0))))
    (sRet (mC (.int 0)))
    sNext)
    (sRet (mBin M.gMod (mCB cInt (mCons (mBM0 "list" gPop (mVar 0)) mNil)) (mVar 1))))
def m_law_pick : List D → Sto → MM D := mDef 2 2 b_law_pick
theorem ok_law_pick {f : Addr} {fd : FuncData} (F : Fun K "_law_pick" "_law_pick" s_law_pick f fd) (T : Tx mg)  :
    FnOk P w K mg base CX0 1 f fd ["feed", "many"] (spM K 2 m_law_pick) :=
  fn_m F sc_law_pick fun cdv A outer s H E E' hr =>
    (mss_cons (ms_if (mt_cmp op_eq rf_eq (me_callB call_len rf_len T.z_len (by decide +kernel) (ma_cons (me_var 0) ma_nil)) me_int (nomark _))
    (mss_one (ms_ret me_int))
    mss_nil)
    (mss_one (ms_ret (me_mod (me_callTy call_int1 rf_int T.z_int (by decide +kernel) (ma_cons (me_pop (me_var 0)) ma_nil)) (me_var 1)))))
abbrev s_law_amount : Stmt := top 7
theorem sc_law_amount : FnScope ["feed", "most"] ["feed", "most"] (defScope s_law_amount) := ⟨rfl, rfl, rfl, by decide +kernel, rfl, by decide +kernel, by decide +kernel⟩
def b_law_amount : FS :=
    (sSeq (sIf (mB (mBin gEq (mCall (callB 2 m_law_pick) (mCons (mVar 0) (mCons (mC (.int 9)) mNil))) (mC (.int 1))))
    (sRet (mBin gIx (mLst false (mCons (mC (.int 0)) (mCons (mC (.int 1)) (mCons (mC (.int 99999)) (mCons (mC (.int 100000)) mNil))))) (mCall (callB 2 m_law_pick) (mCons (mVar 0) (mCons (mC (.int 4)) mNil)))))
    sNext)
    (sRet (mCall (callB 2 m_law_pick) (mCons (mVar 0) (mCons (mVar 1) mNil)))))
def m_law_amount : List D → Sto → MM D := mDef 2 2 b_law_amount
theorem ok_law_amount {f : Addr} {fd : FuncData} (F : Fun K "_law_amount" "_law_amount" s_law_amount f fd) (T : Tx mg) (C_law_pick : Cal P w K mg base 1 "_law_pick" ["feed", "many"] m_law_pick) :
    FnOk P w K mg base CX0 2 f fd ["feed", "most"] (spM K 2 m_law_amount) :=
  fn_m F sc_law_amount fun cdv A outer s H E E' hr =>
    (mss_cons (ms_if (mt_cmp op_eq rf_eq (me_cal C_law_pick callf_B (hr.mono (by decide)) (ma_cons (me_var 0) (ma_cons me_int ma_nil))) me_int (nomark _))
    (mss_one (ms_ret (me_ix (me_lst false (ma_cons me_int (ma_cons me_int (ma_cons me_int (ma_cons me_int ma_nil))))) (me_cal C_law_pick callf_B (hr.mono (by decide)) (ma_cons (me_var 0) (ma_cons me_int ma_nil))))))
    mss_nil)
    (mss_one (ms_ret (me_cal C_law_pick callf_B (hr.mono (by decide)) (ma_cons (me_var 0) (ma_cons (me_var 1) ma_nil))))))
abbrev s_law_font : Stmt := top 8
theorem sc_law_font : FnScope ["feed", "name", "glyphs", "char", "glyph", "kerns", "names", "k", "left", "right"] ["feed", "name"] (defScope s_law_font) := ⟨rfl, rfl, rfl, by decide +kernel, rfl, by decide +kernel, by decide +kernel⟩
def b_law_font : FS :=
    (sSeq (sAsg mDNewK (gNm 2))
    (sSeq (sFor (iAny (mC (.str "abfil-."))) (gNm 3)
    (M.sDPut (mVar 2) (mVar 3) (mTup (mCons (mCB cMax2 (mCons (mC (.int 1)) (mCons (mCall (callB 2 m_law_amount) (mCons (mVar 0) (mCons (mC (.int 90)) mNil))) mNil))) (mCons (mCall (callB 2 m_law_amount) (mCons (mVar 0) (mCons (mC (.int 60)) mNil))) (mCons (mCall (callB 2 m_law_amount) (mCons (mVar 0) (mCons (mC (.int 40)) mNil))) mNil))))))
    (sSeq (sFor (iAny (mLst false (mCons (mC (.str "ff")) (mCons (mC (.str "fi")) (mCons (mC (.str "fl")) (mCons (mC (.str "ab")) (mCons (mC (.str "li")) (mCons (mC (.str "--")) (mCons (mC (.str "ffi")) (mCons (mC (.str "ffl")) (mCons (mC (.str "aba")) (mCons (mC (.str "lil")) (mCons (mC (.str "ffif")) (mCons (mC (.str "abab")) mNil)))))))))))))) (gNm 4)
    (sIf (mAnd (mB (mBin gGt (mCall (callB 2 m_law_pick) (mCons (mVar 0) (mCons (mC (.int 5)) mNil))) (mC (.int 1)))) (mB (mDIn false (mSl false (mVar 4) mNoPart (mPart (mUn gNeg (mC (.int 1))))) (mVar 2))))
    (M.sDPut (mVar 2) (mVar 4) (mTup (mCons (mCB cMax2 (mCons (mC (.int 1)) (mCons (mCall (callB 2 m_law_amount) (mCons (mVar 0) (mCons (mC (.int 150)) mNil))) mNil))) (mCons (mCall (callB 2 m_law_amount) (mCons (mVar 0) (mCons (mC (.int 60)) mNil))) (mCons (mCall (callB 2 m_law_amount) (mCons (mVar 0) (mCons (mC (.int 40)) mNil))) mNil)))))
    sNext))
    (sSeq (M.sDPut (mVar 2) (mC (.str "-\n")) (mTup (mCons (mBin (gAdd false) (mC (.int 1)) (mCall (callB 2 m_law_pick) (mCons (mVar 0) (mCons (mC (.int 40)) mNil)))) (mCons (mCall (callB 2 m_law_pick) (mCons (mVar 0) (mCons (mC (.int 30)) mNil))) (mCons (mC (.int 0)) mNil)))))
    (sSeq (sAsg mDNewT (gNm 5))
    (sSeq (sAsg (mCB (cSorted false) (mCons (mKeys false (mVar 2)) mNil)) (gNm 6))
    (sSeq (sFor (iR1 (mCons (mCall (callB 2 m_law_pick) (mCons (mVar 0) (mCons (mC (.int 12)) mNil))) mNil)) (gNm 7)
    (sSeq (sAsg (mBin gIx (mVar 6) (mCall (callB 2 m_law_pick) (mCons (mVar 0) (mCons (mCB cLen (mCons (mVar 6) mNil)) mNil)))) (gNm 8))
    (sSeq (sAsg (mBin gIx (mVar 6) (mCall (callB 2 m_law_pick) (mCons (mVar 0) (mCons (mCB cLen (mCons (mVar 6) mNil)) mNil)))) (gNm 9))
    (M.sDPut (mVar 5) (mTup (mCons (mVar 8) (mCons (mVar 9) mNil))) (mBin M.gSub (mC (.int 0)) (mCall (callB 2 m_law_pick) (mCons (mVar 0) (mCons (mCB cMin2 (mCons (mC (.int 30)) (mCons (mBin gIx (mDGet (mVar 2) (mVar 8)) (mC (.int 0))) mNil))) mNil))))))))
    (sFrz 5 (sFrz 2 (sRet (mTup (mCons (mC (.str "font")) (mCons (mVar 1) (mCons (mVar 2) (mCons (mVar 5) mNil)))))))))))))))
def m_law_font : List D → Sto → MM D := mDef 10 2 b_law_font
theorem ok_law_font {f : Addr} {fd : FuncData} (F : Fun K "_law_font" "_law_font" s_law_font f fd) (T : Tx mg) (C_law_amount : Cal P w K mg base 2 "_law_amount" ["feed", "most"] m_law_amount) (C_law_pick : Cal P w K mg base 1 "_law_pick" ["feed", "many"] m_law_pick) :
    FnOk P w K mg base CX0 3 f fd ["feed", "name"] (spM K 2 m_law_font) :=
  fn_m F sc_law_font fun cdv A outer s H E E' hr =>
    (mss_cons (ms_set (i := 2) sc_law_font.nd me_dnewK)
    (mss_cons (ms_for PassesOwn.never rfl (mi_any me_str) (mg_name (i := 3) sc_law_font.nd)
    (mss_one (ms_dput (hu_of hr) (me_var 2) (me_var 3) (me_tup (ma_cons (me_callB (call_max2 rfl) rf_2I T.z_max (by decide +kernel) (ma_cons me_int (ma_cons (me_cal C_law_amount callf_B (hr.mono (by decide)) (ma_cons (me_var 0) (ma_cons me_int ma_nil))) ma_nil))) (ma_cons (me_cal C_law_amount callf_B (hr.mono (by decide)) (ma_cons (me_var 0) (ma_cons me_int ma_nil))) (ma_cons (me_cal C_law_amount callf_B (hr.mono (by decide)) (ma_cons (me_var 0) (ma_cons me_int ma_nil))) ma_nil)))))))
    (mss_cons (ms_for PassesOwn.never rfl (mi_any (me_lst false (ma_cons me_str (ma_cons me_str (ma_cons me_str (ma_cons me_str (ma_cons me_str (ma_cons me_str (ma_cons me_str (ma_cons me_str (ma_cons me_str (ma_cons me_str (ma_cons me_str (ma_cons me_str ma_nil)))))))))))))) (mg_name (i := 4) sc_law_font.nd)
    (mss_one (ms_if (MW.mt (mw_and (mt_cmp opr_gt rf_cmp (me_cal C_law_pick callf_B (hr.mono (by decide)) (ma_cons (me_var 0) (ma_cons me_int ma_nil))) me_int (nomark _)) (mw_and1 (mt_din (hu_of hr) (me_sl false (me_var 4) mo_none (mo_some (me_neg me_int))) (me_var 2)))))
    (mss_one (ms_dput (hu_of hr) (me_var 2) (me_var 4) (me_tup (ma_cons (me_callB (call_max2 rfl) rf_2I T.z_max (by decide +kernel) (ma_cons me_int (ma_cons (me_cal C_law_amount callf_B (hr.mono (by decide)) (ma_cons (me_var 0) (ma_cons me_int ma_nil))) ma_nil))) (ma_cons (me_cal C_law_amount callf_B (hr.mono (by decide)) (ma_cons (me_var 0) (ma_cons me_int ma_nil))) (ma_cons (me_cal C_law_amount callf_B (hr.mono (by decide)) (ma_cons (me_var 0) (ma_cons me_int ma_nil))) ma_nil))))))
    mss_nil)))
    (mss_cons (ms_dput (hu_of hr) (me_var 2) me_str (me_tup (ma_cons (me_add false me_int (me_cal C_law_pick callf_B (hr.mono (by decide)) (ma_cons (me_var 0) (ma_cons me_int ma_nil)))) (ma_cons (me_cal C_law_pick callf_B (hr.mono (by decide)) (ma_cons (me_var 0) (ma_cons me_int ma_nil))) (ma_cons me_int ma_nil)))))
    (mss_cons (ms_set (i := 5) sc_law_font.nd me_dnewT)
    (mss_cons (ms_set (i := 6) sc_law_font.nd (me_callB (cr_sortD hr.units) (rf_sorted false) T.z_sorted (by decide +kernel) (ma_cons (me_listKeys false rfl (me_var 2) T.z_list) ma_nil)))
    (mss_cons (ms_for PassesOwn.never rfl (mi_range1 (ma_cons (me_cal C_law_pick callf_B (hr.mono (by decide)) (ma_cons (me_var 0) (ma_cons me_int ma_nil))) ma_nil) T.z_range) (mg_name (i := 7) sc_law_font.nd)
    (mss_cons (ms_set (i := 8) sc_law_font.nd (me_ix (me_var 6) (me_cal C_law_pick callf_B (hr.mono (by decide)) (ma_cons (me_var 0) (ma_cons (me_callB call_len rf_len T.z_len (by decide +kernel) (ma_cons (me_var 6) ma_nil)) ma_nil)))))
    (mss_cons (ms_set (i := 9) sc_law_font.nd (me_ix (me_var 6) (me_cal C_law_pick callf_B (hr.mono (by decide)) (ma_cons (me_var 0) (ma_cons (me_callB call_len rf_len T.z_len (by decide +kernel) (ma_cons (me_var 6) ma_nil)) ma_nil)))))
    (mss_one (ms_dput (hu_of hr) (me_var 5) (me_tup (ma_cons (me_var 8) (ma_cons (me_var 9) ma_nil))) (me_sub me_int (me_cal C_law_pick callf_B (hr.mono (by decide)) (ma_cons (me_var 0) (ma_cons (me_callB (call_min2 rfl) rf_2I T.z_min (by decide +kernel) (ma_cons me_int (ma_cons (me_ix (me_dget (hu_of hr) (me_var 2) (me_var 8)) me_int) ma_nil))) ma_nil)))))))))
    (mss_frz 5 (mss_frz 2 (mss_one (ms_ret (me_tup (ma_cons me_str (ma_cons (me_var 1) (ma_cons (me_var 2) (ma_cons (me_var 5) ma_nil))))))))))))))))
abbrev s_law_edges : Stmt := top 9
theorem sc_law_edges : FnScope ["font", "glyphs", "x", "edges", "k"] ["font", "glyphs"] (defScope s_law_edges) := ⟨rfl, rfl, rfl, by decide +kernel, rfl, by decide +kernel, by decide +kernel⟩
def b_law_edges : FS :=
    (sSeq (sAsg (mC (.int 0)) (gNm 2))
    (sSeq (sAsg (mLst true (mCons (mC (.int 0)) mNil)) (gNm 3))
    (sSeq (sFor (iR1 (mCons (mCB cLen (mCons (mVar 1) mNil)) mNil)) (gNm 4)
    (sSeq (sAsg (mBin (gAdd false) (mVar 2) (mBin gIx (mDGet (mBin gIx (mVar 0) (mC (.int 2))) (mBin gIx (mVar 1) (mVar 4))) (mC (.int 0)))) (gNm 2))
    (sSeq (sIf (mB (mBin gLt (mBin (gAdd false) (mVar 4) (mC (.int 1))) (mCB cLen (mCons (mVar 1) mNil))))
    (sAsg (mBin (gAdd false) (mVar 2) (mDGet2 (mBin gIx (mVar 0) (mC (.int 3))) (mTup (mCons (mBin gIx (mVar 1) (mVar 4)) (mCons (mBin gIx (mVar 1) (mBin (gAdd false) (mVar 4) (mC (.int 1)))) mNil))) (mC (.int 0)))) (gNm 2))
    sNext)
    (sDrop (mBM "list" gAppend (mVar 3) (mCons (mVar 2) mNil))))))
    (sFrz 3 (sRet (mVar 3))))))
def m_law_edges : List D → Sto → MM D := mDef 5 2 b_law_edges
theorem ok_law_edges {f : Addr} {fd : FuncData} (F : Fun K "_law_edges" "_law_edges" s_law_edges f fd) (T : Tx mg)  :
    FnOk P w K mg base CX0 1 f fd ["font", "glyphs"] (spM K 2 m_law_edges) :=
  fn_m F sc_law_edges fun cdv A outer s H E E' hr =>
    (mss_cons (ms_set (i := 2) sc_law_edges.nd me_int)
    (mss_cons (ms_set (i := 3) sc_law_edges.nd (me_lst true (ma_cons me_int ma_nil)))
    (mss_cons (ms_for PassesOwn.never rfl (mi_range1 (ma_cons (me_callB call_len rf_len T.z_len (by decide +kernel) (ma_cons (me_var 1) ma_nil)) ma_nil) T.z_range) (mg_name (i := 4) sc_law_edges.nd)
    (mss_cons (ms_set (i := 2) sc_law_edges.nd (me_add false (me_var 2) (me_ix (me_dget (hu_of hr) (me_ix (me_var 0) me_int) (me_ix (me_var 1) (me_var 4))) me_int)))
    (mss_cons (ms_if (mt_cmp opr_lt rf_cmp (me_add false (me_var 4) me_int) (me_callB call_len rf_len T.z_len (by decide +kernel) (ma_cons (me_var 1) ma_nil)) (nomark _))
    (mss_one (ms_set (i := 2) sc_law_edges.nd (me_add false (me_var 2) (me_dget2 (hu_of hr) (me_ix (me_var 0) me_int) (me_tup (ma_cons (me_ix (me_var 1) (me_var 4)) (ma_cons (me_ix (me_var 1) (me_add false (me_var 4) me_int)) ma_nil))) me_int ⟨by rfl, by rfl, by rfl, by rfl⟩))))
    mss_nil)
    (mss_one (ms_expr (me_append (me_var 3) (ma_cons (me_var 2) ma_nil)))))))
    (mss_frz 3 (mss_one (ms_ret (me_var 3)))))))
abbrev s_law_same : Stmt := top 10
theorem sc_law_same : FnScope ["actual", "due", "k"] ["actual", "due"] (defScope s_law_same) := ⟨rfl, rfl, rfl, by decide +kernel, rfl, by decide +kernel, by decide +kernel⟩
def b_law_same (self : List D → Sto → MM D) : FS :=
    (sSeq (sIf (mB (mBin gIsN (mVar 1) (mC .non)))
    (sRet (mBin gIsN (mVar 0) (mC .non)))
    sNext)
    (sSeq (sIf (mTru (mUn (gIsi "bool") (mVar 1)))
    (sRet (mAndV (mUn (gIsi "bool") (mVar 0)) (mBin gEq (mVar 0) (mVar 1))))
    sNext)
    (sSeq (sIf (mTru (mUn (gIsi "int") (mVar 1)))
    (sRet (mAndV (mUn (gIsi "int") (mVar 0)) (mAndV (mNotV (mUn (gIsi "bool") (mVar 0))) (mBin gEq (mVar 0) (mVar 1)))))
    sNext)
    (sSeq (sIf (mTru (mUn (gIsi "str") (mVar 1)))
    (sRet (mAndV (mUn (gIsi "str") (mVar 0)) (mBin gEq (mVar 0) (mVar 1))))
    sNext)
    (sSeq (sIf (mAnd (mTru (mUn (gIsi "list") (mVar 1))) (mNot (mTru (mUn (gIsi "list") (mVar 0)))))
    (sRet (mC (.bl false)))
    sNext)
    (sSeq (sIf (mAnd (mTru (mUn (gIsi "tuple") (mVar 1))) (mNot (mTru (mUn (gIsi "tuple") (mVar 0)))))
    (sRet (mC (.bl false)))
    sNext)
    (sSeq (sIf (mB (mBin gNe (mCB cLen (mCons (mVar 0) mNil)) (mCB cLen (mCons (mVar 1) mNil))))
    (sRet (mC (.bl false)))
    sNext)
    (sSeq (sFor (iR1 (mCons (mCB cLen (mCons (mVar 1) mNil)) mNil)) (gNm 2)
    (sIf (mNot (mTru (mCall (callB 2 self) (mCons (mBin gIx (mVar 0) (mVar 2)) (mCons (mBin gIx (mVar 1) (mVar 2)) mNil)))))
    (sRet (mC (.bl false)))
    sNext))
    (sRet (mC (.bl true)))))))))))
def m_law_same : Nat → List D → Sto → MM D
  | 0 => fun _ _ => none
  | n + 1 => mDef 3 2 (b_law_same (m_law_same n))
theorem st_law_same {f : Addr} {fd : FuncData} (F : Fun K "_law_same" "_law_same" s_law_same f fd) (T : Tx mg)  {lev n : Nat} (hlev : 0 ≤ lev) (C_self : Cal P w K mg base lev "_law_same" ["actual", "due"] (m_law_same n)) :
    FnOk P w K mg base CX0 (lev + 1) f fd ["actual", "due"] (spM K 2 (m_law_same (n + 1))) :=
  fn_m F sc_law_same fun cdv A outer s H E E' hr =>
    (mss_cons (ms_if (mt_cmp op_isN rf_isN (me_var 1) me_non (nomark _))
    (mss_one (ms_ret (me_cmp op_isN rf_isN (me_var 0) me_non (nomark _))))
    mss_nil)
    (mss_cons (ms_if (mt_truth (me_isi T.z_isinstance T.z_bool (me_var 1)))
    (mss_one (ms_ret (me_and (me_isi T.z_isinstance T.z_bool (me_var 0)) (me_one (me_cmp op_eq rf_eq (me_var 0) (me_var 1) (nomark _))))))
    mss_nil)
    (mss_cons (ms_if (mt_truth (me_isi T.z_isinstance T.z_int (me_var 1)))
    (mss_one (ms_ret (me_and (me_isi T.z_isinstance T.z_int (me_var 0)) (me_and (me_not (me_isi T.z_isinstance T.z_bool (me_var 0))) (me_one (me_cmp op_eq rf_eq (me_var 0) (me_var 1) (nomark _)))))))
    mss_nil)
    (mss_cons (ms_if (mt_truth (me_isi T.z_isinstance T.z_str (me_var 1)))
    (mss_one (ms_ret (me_and (me_isi T.z_isinstance T.z_str (me_var 0)) (me_one (me_cmp op_eq rf_eq (me_var 0) (me_var 1) (nomark _))))))
    mss_nil)
    (mss_cons (ms_if (MW.mt (mw_and (mt_truth (me_isi T.z_isinstance T.z_list (me_var 1))) (mw_and1 (mt_not (mt_truth (me_isi T.z_isinstance T.z_list (me_var 0)))))))
    (mss_one (ms_ret me_bl))
    mss_nil)
    (mss_cons (ms_if (MW.mt (mw_and (mt_truth (me_isi T.z_isinstance T.z_tuple (me_var 1))) (mw_and1 (mt_not (mt_truth (me_isi T.z_isinstance T.z_tuple (me_var 0)))))))
    (mss_one (ms_ret me_bl))
    mss_nil)
    (mss_cons (ms_if (mt_cmp op_ne rf_ne (me_callB call_len rf_len T.z_len (by decide +kernel) (ma_cons (me_var 0) ma_nil)) (me_callB call_len rf_len T.z_len (by decide +kernel) (ma_cons (me_var 1) ma_nil)) (nomark _))
    (mss_one (ms_ret me_bl))
    mss_nil)
    (mss_cons (ms_for PassesOwn.never rfl (mi_range1 (ma_cons (me_callB call_len rf_len T.z_len (by decide +kernel) (ma_cons (me_var 1) ma_nil)) ma_nil) T.z_range) (mg_name (i := 2) sc_law_same.nd)
    (mss_one (ms_if (mt_not (mt_truth (me_cal C_self callf_B (hr.mono (by omega)) (ma_cons (me_ix (me_var 0) (me_var 2)) (ma_cons (me_ix (me_var 1) (me_var 2)) ma_nil)))))
    (mss_one (ms_ret me_bl))
    mss_nil)))
    (mss_one (ms_ret me_bl))))))))))
theorem ok_law_same {f : Addr} {fd : FuncData} (F : Fun K "_law_same" "_law_same" s_law_same f fd) (T : Tx mg)  (hm : mg "_law_same" = some (.ref f)) (hk : PySem.W.keepIn K (.ref f) = true) (hb : Binds K fd ["actual", "due"] []) : ∀ n, Cal P w K mg base (0 + n) "_law_same" ["actual", "due"] (m_law_same n)
  | 0 => ⟨f, fd, fn_none, hm, hk, hb⟩
  | n + 1 => ⟨f, fd, st_law_same F T  (Nat.le_add_right _ _) (ok_law_same F T  hm hk hb n), hm, hk, hb⟩
abbrev s_law_glyphs : Stmt := top 11
theorem sc_law_glyphs : FnScope ["feed", "font", "names", "pairs", "glyphs", "k", "pair"] ["feed", "font"] (defScope s_law_glyphs) := ⟨rfl, rfl, rfl, by decide +kernel, rfl, by decide +kernel, by decide +kernel⟩
def b_law_glyphs : FS :=
    (sSeq (sAsg (mCB (cSorted false) (mCons (mKeys false (mBin gIx (mVar 1) (mC (.int 2)))) mNil)) (gNm 2))
    (sSeq (sAsg (mCB (cSorted false) (mCons (mKeys false (mBin gIx (mVar 1) (mC (.int 3)))) mNil)) (gNm 3))
    (sSeq (sAsg (mLst true mNil) (gNm 4))
    (sSeq (sFor (iR1 (mCons (mCall (callB 2 m_law_pick) (mCons (mVar 0) (mCons (mC (.int 20)) mNil))) mNil)) (gNm 5)
    (sIf (mAnd (mB (mBin gGt (mCB cLen (mCons (mVar 3) mNil)) (mC (.int 0)))) (mB (mBin gEq (mCall (callB 2 m_law_pick) (mCons (mVar 0) (mCons (mC (.int 2)) mNil))) (mC (.int 1)))))
    (sSeq (sAsg (mBin gIx (mVar 3) (mCall (callB 2 m_law_pick) (mCons (mVar 0) (mCons (mCB cLen (mCons (mVar 3) mNil)) mNil)))) (gNm 6))
    (sAsg (mBin (gAdd true) (mVar 4) (mLst false (mCons (mBin gIx (mVar 6) (mC (.int 0))) (mCons (mBin gIx (mVar 6) (mC (.int 1))) mNil)))) (gNm 4)))
    (sDrop (mBM "list" gAppend (mVar 4) (mCons (mBin gIx (mVar 2) (mCall (callB 2 m_law_pick) (mCons (mVar 0) (mCons (mCB cLen (mCons (mVar 2) mNil)) mNil)))) mNil)))))
    (sRet (mSl false (mVar 4) mNoPart (mPart (mC (.int 29)))))))))
def m_law_glyphs : List D → Sto → MM D := mDef 7 2 b_law_glyphs
theorem ok_law_glyphs {f : Addr} {fd : FuncData} (F : Fun K "_law_glyphs" "_law_glyphs" s_law_glyphs f fd) (T : Tx mg) (C_law_pick : Cal P w K mg base 1 "_law_pick" ["feed", "many"] m_law_pick) :
    FnOk P w K mg base CX0 2 f fd ["feed", "font"] (spM K 2 m_law_glyphs) :=
  fn_m F sc_law_glyphs fun cdv A outer s H E E' hr =>
    (mss_cons (ms_set (i := 2) sc_law_glyphs.nd (me_callB (cr_sortD hr.units) (rf_sorted false) T.z_sorted (by decide +kernel) (ma_cons (me_listKeys false rfl (me_ix (me_var 1) me_int) T.z_list) ma_nil)))
    (mss_cons (ms_set (i := 3) sc_law_glyphs.nd (me_callB (cr_sortD hr.units) (rf_sorted false) T.z_sorted (by decide +kernel) (ma_cons (me_listKeys false rfl (me_ix (me_var 1) me_int) T.z_list) ma_nil)))
    (mss_cons (ms_set (i := 4) sc_law_glyphs.nd (me_lst true ma_nil))
    (mss_cons (ms_for PassesOwn.never rfl (mi_range1 (ma_cons (me_cal C_law_pick callf_B (hr.mono (by decide)) (ma_cons (me_var 0) (ma_cons me_int ma_nil))) ma_nil) T.z_range) (mg_name (i := 5) sc_law_glyphs.nd)
    (mss_one (ms_if (MW.mt (mw_and (mt_cmp opr_gt rf_cmp (me_callB call_len rf_len T.z_len (by decide +kernel) (ma_cons (me_var 3) ma_nil)) me_int (nomark _)) (mw_and1 (mt_cmp op_eq rf_eq (me_cal C_law_pick callf_B (hr.mono (by decide)) (ma_cons (me_var 0) (ma_cons me_int ma_nil))) me_int (nomark _)))))
    (mss_cons (ms_set (i := 6) sc_law_glyphs.nd (me_ix (me_var 3) (me_cal C_law_pick callf_B (hr.mono (by decide)) (ma_cons (me_var 0) (ma_cons (me_callB call_len rf_len T.z_len (by decide +kernel) (ma_cons (me_var 3) ma_nil)) ma_nil)))))
    (mss_one (ms_set (i := 4) sc_law_glyphs.nd (me_add true (me_var 4) (me_lst false (ma_cons (me_ix (me_var 6) me_int) (ma_cons (me_ix (me_var 6) me_int) ma_nil)))))))
    (mss_one (ms_expr (me_append (me_var 4) (ma_cons (me_ix (me_var 2) (me_cal C_law_pick callf_B (hr.mono (by decide)) (ma_cons (me_var 0) (ma_cons (me_callB call_len rf_len T.z_len (by decide +kernel) (ma_cons (me_var 2) ma_nil)) ma_nil)))) ma_nil)))))))
    (mss_one (ms_ret (me_sl false (me_var 4) mo_none (mo_some me_int))))))))
abbrev s_law : Stmt := top 12
theorem sc_law : FnScope ["script", "feed", "font", "first", "second", "kept", "glyphs", "edges", "k", "height", "glyph", "depth", "between"] ["script"] (defScope s_law) := ⟨rfl, rfl, rfl, by decide +kernel, rfl, by decide +kernel, by decide +kernel⟩
def b_law : FS :=
    (sSeq (sAsg (mCall (callB 1 m_law_numbers) (mCons (mVar 0) mNil)) (gNm 1))
    (sSeq (sAsg (mCall (callB 2 m_law_font) (mCons (mVar 1) (mCons (mC (.str "plain")) mNil))) (gNm 2))
    (sSeq (sAsg (mCall (callB 2 m_law_glyphs) (mCons (mVar 1) (mCons (mVar 2) mNil))) (gNm 3))
    (sSeq (sAsg (mCall (callB 2 m_law_glyphs) (mCons (mVar 1) (mCons (mVar 2) mNil))) (gNm 4))
    (sSeq (sAsg (mLst false (mCons (mCB (cList false) (mCons (mVar 3) mNil)) (mCons (mCB (cList false) (mCons (mVar 4) mNil)) mNil))) (gNm 5))
    (sSeq (sFor (iAny (mLst false (mCons (mVar 3) (mCons (mVar 4) (mCons (mBin (gAdd false) (mVar 3) (mVar 4)) (mCons (mLst false mNil) mNil)))))) (gNm 6)
    (sSeq (sAsg (mCall (callB 2 m_law_edges) (mCons (mVar 2) (mCons (mVar 6) mNil))) (gNm 7))
    (sSeq (sIf (mOr (mNot (mTru (mCall (callB 2 (m_law_same 4)) (mCons (mCall (callB 2 m_positions) (mCons (mVar 2) (mCons (mVar 6) mNil))) (mCons (mVar 7) mNil))))) (mNot (mTru (mCall (callB 2 (m_law_same 4)) (mCons (mCall (callB 2 m_width) (mCons (mVar 2) (mCons (mVar 6) mNil))) (mCons (mBin gIx (mVar 7) (mUn gNeg (mC (.int 1)))) mNil))))))
    (sRet (mC (.bl false)))
    sNext)
    (sSeq (sFor (iR1 (mCons (mCB cLen (mCons (mVar 6) mNil)) mNil)) (gNm 8)
    (sIf (mNot (mB (mBin gLt (mBin gIx (mVar 7) (mVar 8)) (mBin gIx (mVar 7) (mBin (gAdd false) (mVar 8) (mC (.int 1)))))))
    (sRet (mC (.bl false)))
    sNext))
    (sSeq (sAsg (mCB cMaxL (mCons (mBin (gAdd false) (mLst false (mCons (mC (.int 0)) mNil)) (mLc false (iAny (mVar 6)) (gNm 10) tYesD (mBin gIx (mDGet (mBin gIx (mVar 2) (mC (.int 2))) (mVar 10)) (mC (.int 1))) [10])) mNil)) (gNm 9))
    (sSeq (sAsg (mCB cMaxL (mCons (mBin (gAdd false) (mLst false (mCons (mC (.int 0)) mNil)) (mLc false (iAny (mVar 6)) (gNm 10) tYesD (mBin gIx (mDGet (mBin gIx (mVar 2) (mC (.int 2))) (mVar 10)) (mC (.int 2))) [10])) mNil)) (gNm 11))
    (sIf (mNot (mTru (mCall (callB 2 (m_law_same 4)) (mCons (mCall (callB 2 m_extents) (mCons (mVar 2) (mCons (mVar 6) mNil))) (mCons (mTup (mCons (mVar 9) (mCons (mVar 11) mNil))) mNil)))))
    (sRet (mC (.bl false)))
    sNext)))))))
    (sSeq (sAsg (mC (.int 0)) (gNm 12))
    (sSeq (sIf (mAnd (mB (mBin gGt (mCB cLen (mCons (mVar 3) mNil)) (mC (.int 0)))) (mB (mBin gGt (mCB cLen (mCons (mVar 4) mNil)) (mC (.int 0)))))
    (sAsg (mDGet2 (mBin gIx (mVar 2) (mC (.int 3))) (mTup (mCons (mBin gIx (mVar 3) (mUn gNeg (mC (.int 1)))) (mCons (mBin gIx (mVar 4) (mC (.int 0))) mNil))) (mC (.int 0))) (gNm 12))
    sNext)
    (sSeq (sIf (mB (mBin gNe (mCall (callB 2 m_width) (mCons (mVar 2) (mCons (mBin (gAdd false) (mVar 3) (mVar 4)) mNil))) (mBin (gAdd false) (mBin (gAdd false) (mCall (callB 2 m_width) (mCons (mVar 2) (mCons (mVar 3) mNil))) (mVar 12)) (mCall (callB 2 m_width) (mCons (mVar 2) (mCons (mVar 4) mNil))))))
    (sRet (mC (.bl false)))
    sNext)
    (sRet (mBin (gEqD false) (mVar 5) (mLst false (mCons (mVar 3) (mCons (mVar 4) mNil))))))))))))))
def m_law : List D → Sto → MM D := mDef 13 1 b_law
theorem ok_law {f : Addr} {fd : FuncData} (F : Fun K "law" "law" s_law f fd) (T : Tx mg) (C_law_numbers : Cal P w K mg base 1 "_law_numbers" ["script"] m_law_numbers) (C_law_font : Cal P w K mg base 3 "_law_font" ["feed", "name"] m_law_font) (C_law_glyphs : Cal P w K mg base 2 "_law_glyphs" ["feed", "font"] m_law_glyphs) (C_law_edges : Cal P w K mg base 1 "_law_edges" ["font", "glyphs"] m_law_edges) (C_positions : Cal P w K mg base 1 "positions" ["font", "glyphs"] m_positions) (C_law_same : Cal P w K mg base 4 "_law_same" ["actual", "due"] (m_law_same 4)) (C_width : Cal P w K mg base 2 "width" ["font", "glyphs"] m_width) (C_extents : Cal P w K mg base 1 "extents" ["font", "glyphs"] m_extents) :
    FnOk P w K mg base CX0 5 f fd ["script"] (spM K 1 m_law) :=
  fn_m F sc_law fun cdv A outer s H E E' hr =>
    (mss_cons (ms_set (i := 1) sc_law.nd (me_cal C_law_numbers callf_B (hr.mono (by decide)) (ma_cons (me_var 0) ma_nil)))
    (mss_cons (ms_set (i := 2) sc_law.nd (me_cal C_law_font callf_B (hr.mono (by decide)) (ma_cons (me_var 1) (ma_cons me_str ma_nil))))
    (mss_cons (ms_set (i := 3) sc_law.nd (me_cal C_law_glyphs callf_B (hr.mono (by decide)) (ma_cons (me_var 1) (ma_cons (me_var 2) ma_nil))))
    (mss_cons (ms_set (i := 4) sc_law.nd (me_cal C_law_glyphs callf_B (hr.mono (by decide)) (ma_cons (me_var 1) (ma_cons (me_var 2) ma_nil))))
    (mss_cons (ms_set (i := 5) sc_law.nd (me_lst false (ma_cons (me_callTy call_list_of (rf_list false) T.z_list (by decide +kernel) (ma_cons (me_var 3) ma_nil)) (ma_cons (me_callTy call_list_of (rf_list false) T.z_list (by decide +kernel) (ma_cons (me_var 4) ma_nil)) ma_nil))))
    (mss_cons (ms_for PassesOwn.never rfl (mi_any (me_lst false (ma_cons (me_var 3) (ma_cons (me_var 4) (ma_cons (me_add false (me_var 3) (me_var 4)) (ma_cons (me_lst false ma_nil) ma_nil)))))) (mg_name (i := 6) sc_law.nd)
    (mss_cons (ms_set (i := 7) sc_law.nd (me_cal C_law_edges callf_B (hr.mono (by decide)) (ma_cons (me_var 2) (ma_cons (me_var 6) ma_nil))))
    (mss_cons (ms_if (MW.mt (mw_or (mt_not (mt_truth (me_cal C_law_same callf_B (hr.mono (by decide)) (ma_cons (me_cal C_positions callf_B (hr.mono (by decide)) (ma_cons (me_var 2) (ma_cons (me_var 6) ma_nil))) (ma_cons (me_var 7) ma_nil))))) (mw_or1 (mt_not (mt_truth (me_cal C_law_same callf_B (hr.mono (by decide)) (ma_cons (me_cal C_width callf_B (hr.mono (by decide)) (ma_cons (me_var 2) (ma_cons (me_var 6) ma_nil))) (ma_cons (me_ix (me_var 7) (me_neg me_int)) ma_nil))))))))
    (mss_one (ms_ret me_bl))
    mss_nil)
    (mss_cons (ms_for PassesOwn.never rfl (mi_range1 (ma_cons (me_callB call_len rf_len T.z_len (by decide +kernel) (ma_cons (me_var 6) ma_nil)) ma_nil) T.z_range) (mg_name (i := 8) sc_law.nd)
    (mss_one (ms_if (mt_not (mt_cmp opr_lt rf_cmp (me_ix (me_var 7) (me_var 8)) (me_ix (me_var 7) (me_add false (me_var 8) me_int)) (nomark _)))
    (mss_one (ms_ret me_bl))
    mss_nil)))
    (mss_cons (ms_set (i := 9) sc_law.nd (me_callB (cr_max rfl) rf_maxL T.z_max (by decide +kernel) (ma_cons (me_add false (me_lst false (ma_cons me_int ma_nil)) (me_lc (own := [("glyph", 10)]) (g := gName 10) (E' := E') false rfl sc_law.nd (mi_any (me_var 6)) (blkOk_by (own := [("glyph", 10)]) (N := ["script", "feed", "font", "first", "second", "kept", "glyphs", "edges", "k", "height", "glyph", "depth", "between"]) (sc := defScope s_law) (by decide +kernel)) (fun _ _ _ _ _ => (pg_name (i := 10) sc_law.nd rfl (Or.inl rfl))) (rgw_name 10) (fun _ _ _ _ _ => (me_ix (me_dget (hu_of hr) (me_ix (me_var 2) me_int) (me_var 10)) me_int)))) ma_nil)))
    (mss_cons (ms_set (i := 11) sc_law.nd (me_callB (cr_max rfl) rf_maxL T.z_max (by decide +kernel) (ma_cons (me_add false (me_lst false (ma_cons me_int ma_nil)) (me_lc (own := [("glyph", 10)]) (g := gName 10) (E' := E') false rfl sc_law.nd (mi_any (me_var 6)) (blkOk_by (own := [("glyph", 10)]) (N := ["script", "feed", "font", "first", "second", "kept", "glyphs", "edges", "k", "height", "glyph", "depth", "between"]) (sc := defScope s_law) (by decide +kernel)) (fun _ _ _ _ _ => (pg_name (i := 10) sc_law.nd rfl (Or.inl rfl))) (rgw_name 10) (fun _ _ _ _ _ => (me_ix (me_dget (hu_of hr) (me_ix (me_var 2) me_int) (me_var 10)) me_int)))) ma_nil)))
    (mss_one (ms_if (mt_not (mt_truth (me_cal C_law_same callf_B (hr.mono (by decide)) (ma_cons (me_cal C_extents callf_B (hr.mono (by decide)) (ma_cons (me_var 2) (ma_cons (me_var 6) ma_nil))) (ma_cons (me_tup (ma_cons (me_var 9) (ma_cons (me_var 11) ma_nil))) ma_nil)))))
    (mss_one (ms_ret me_bl))
    mss_nil))))))))
    (mss_cons (ms_set (i := 12) sc_law.nd me_int)
    (mss_cons (ms_if (MW.mt (mw_and (mt_cmp opr_gt rf_cmp (me_callB call_len rf_len T.z_len (by decide +kernel) (ma_cons (me_var 3) ma_nil)) me_int (nomark _)) (mw_and1 (mt_cmp opr_gt rf_cmp (me_callB call_len rf_len T.z_len (by decide +kernel) (ma_cons (me_var 4) ma_nil)) me_int (nomark _)))))
    (mss_one (ms_set (i := 12) sc_law.nd (me_dget2 (hu_of hr) (me_ix (me_var 2) me_int) (me_tup (ma_cons (me_ix (me_var 3) (me_neg me_int)) (ma_cons (me_ix (me_var 4) me_int) ma_nil))) me_int ⟨by rfl, by rfl, by rfl, by rfl⟩)))
    mss_nil)
    (mss_cons (ms_if (mt_cmp op_ne rf_ne (me_cal C_width callf_B (hr.mono (by decide)) (ma_cons (me_var 2) (ma_cons (me_add false (me_var 3) (me_var 4)) ma_nil))) (me_add false (me_add false (me_cal C_width callf_B (hr.mono (by decide)) (ma_cons (me_var 2) (ma_cons (me_var 3) ma_nil))) (me_var 12)) (me_cal C_width callf_B (hr.mono (by decide)) (ma_cons (me_var 2) (ma_cons (me_var 4) ma_nil)))) (nomark _))
    (mss_one (ms_ret me_bl))
    mss_nil)
    (mss_one (ms_ret (me_cmp (op_eqD hr.units) (rf_eqD) (me_var 5) (me_lst false (ma_cons (me_var 3) (ma_cons (me_var 4) ma_nil))) (nomark _)))))))))))))
end
end G

namespace G
open PySem PySem.Spec L2 M
local macro_rules | `(tactic| walk_at "es") => `(tactic| first
  | with_reducible apply ens_seq
  | with_reducible apply ens_asg
  | with_reducible apply ens_retS
  | with_reducible apply ens_drop
  | with_reducible apply ens_ifS
  | with_reducible apply ens_next
  | ((with_reducible apply ens_var); exact rfl)
  | with_reducible apply ens_C
  | with_reducible apply ens_bin
  | with_reducible apply ens_un
  | with_reducible apply ens_CB
  | with_reducible apply ens_call
  | with_reducible apply ens_nil
  | with_reducible apply ens_cons
  | (with_reducible apply ens_tup)
  | (with_reducible apply ens_lst)
  | (with_reducible apply ens_lstC)
  | with_reducible apply ens_BM
  | with_reducible apply ens_BM0
  | with_reducible apply ens_NP
  | with_reducible apply ens_PA
  | with_reducible apply ens_SL
  | with_reducible apply ens_DG
  | with_reducible apply ens_DG2
  | with_reducible apply ens_DI
  | with_reducible apply ens_KE
  | with_reducible apply ens_MD
  | with_reducible apply ens_NK
  | with_reducible apply ens_NT
  | with_reducible apply ens_B
  | with_reducible apply ens_TR
  | with_reducible apply ens_AND
  | with_reducible apply ens_OR
  | with_reducible apply ens_NOT
  | with_reducible apply ens_ANDV
  | with_reducible apply ens_NOTV
  | with_reducible apply ens_LC
  | with_reducible apply ens_FOR
  | with_reducible apply ens_R1
  | with_reducible apply ens_IA
  | with_reducible apply ens_IE
  | ((with_reducible apply ens_AUG); exact rfl)
  | with_reducible apply ens_PAR
  | ((with_reducible apply ens_FRZ); exact rfl)
  | with_reducible apply ens_DP
  | refine ⟨_, rfl, ?_⟩)
theorem iDs_last {xs : List Int} (h : xs ≠ []) : ∃ v, (iDs xs)[(iDs xs).length - 1]? = some (.int v) := by
  unfold iDs
  rw [List.length_map, List.getElem?_map]
  have : xs.length - 1 < xs.length := by
    have := List.length_pos_iff.mpr h
    omega
  rw [List.getElem?_eq_getElem this]
  exact ⟨_, rfl⟩
theorem s_pick {n : Int} (hn : 0 < n) (xs : List Int) : Ens (m_law_pick [.ptr 0, .int n] [some (.lst (iDs xs))]) fun d cs => ∃ v ys, d = .int v ∧ 0 ≤ v ∧ v < n ∧ cs = [some (.lst (iDs ys))] := by
  refine ens_def [some (.ptr 0), some (.int n)] rfl ?_
  unfold b_law_pick
  repeat walk_at "es"
  refine ens_len (ds := iDs xs) rfl ?_
  rw [iDs_len]
  repeat walk_at "es"
  refine ens_eqI ⟨_, rfl, fun _ => ?_, fun h => ?_⟩
  · repeat walk_at "es"
    exact ⟨0, xs, rfl, Int.le_refl _, hn, rfl⟩
  · have h : xs ≠ [] := fun z => by subst z; simp at h
    obtain ⟨v, hv⟩ := iDs_last h
    repeat walk_at "es"
    refine ⟨rfl, ens_red (x := .int v) (st := [some (.lst (iDs xs.dropLast))]) (by
      show (match (iDs xs)[(iDs xs).length - 1]? with
        | some y => putL 0 (iDs xs).dropLast y _
        | none => none) = _
      rw [hv]
      show some (R.ok (D.int v) [some (Cell.lst (iDs xs).dropLast)]) = _
      unfold iDs
      rw [← List.map_dropLast]; rfl) ?_⟩
    repeat walk_at "es"
    refine ens_red rfl ?_
    repeat walk_at "es"
    refine ens_I hn ?_
    exact ⟨_, _, rfl, Int.emod_nonneg _ (by omega), Int.emod_lt_of_pos _ hn, rfl⟩
theorem s_pickB {n : Int} (hn : 0 < n) (xs : List Int) {st : Sto} {Q : D → Sto → Prop} (h : ∀ v ys, 0 ≤ v → v < n → Q (.int v) (some (.lst (iDs ys)) :: st)) : Ens (callB 2 m_law_pick [.ptr 0, .int n] (some (.lst (iDs xs)) :: st)) Q :=
  ens_B1 rfl rfl (pfs_iDs xs) ((s_pick hn xs).imp fun d cs ⟨v, ys, e1, h0, h1, e2⟩ => ⟨.lst (iDs ys), [], e2, pfs_iDs ys, by rw [e1]; rfl, by rw [e1]; exact h v ys h0 h1⟩)
theorem s_amount {n : Int} (hn : 0 < n) (xs : List Int) : Ens (m_law_amount [.ptr 0, .int n] [some (.lst (iDs xs))]) fun d cs => ∃ v ys, d = .int v ∧ 0 ≤ v ∧ cs = [some (.lst (iDs ys))] := by
  refine ens_def [some (.ptr 0), some (.int n)] rfl ?_
  unfold b_law_amount
  repeat walk_at "es"
  refine s_pickB (by decide) xs fun v ys h0 h1 => ?_
  repeat walk_at "es"
  refine ens_eqI ⟨_, rfl, fun _ => ?_, fun h => ?_⟩
  · repeat walk_at "es"
    refine ⟨by decide, ?_⟩
    repeat walk_at "es"
    refine s_pickB (by decide) ys fun u zs h2 h3 => ?_
    have : u = 0 ∨ u = 1 ∨ u = 2 ∨ u = 3 := by omega
    rcases this with rfl | rfl | rfl | rfl
    · exact ens_red rfl ⟨_, zs, rfl, by decide, rfl⟩
    · exact ens_red rfl ⟨_, zs, rfl, by decide, rfl⟩
    · exact ens_red rfl ⟨_, zs, rfl, by decide, rfl⟩
    · exact ens_red rfl ⟨_, zs, rfl, by decide, rfl⟩
  · repeat walk_at "es"
    exact s_pickB hn ys fun u zs h2 h3 => ⟨u, zs, rfl, h2, rfl⟩
theorem s_amountB {n : Int} (hn : 0 < n) (xs : List Int) {st : Sto} {Q : D → Sto → Prop} (h : ∀ v ys, 0 ≤ v → Q (.int v) (some (.lst (iDs ys)) :: st)) : Ens (callB 2 m_law_amount [.ptr 0, .int n] (some (.lst (iDs xs)) :: st)) Q :=
  ens_B1 rfl rfl (pfs_iDs xs) ((s_amount hn xs).imp fun d cs ⟨v, ys, e1, h0, e2⟩ => ⟨.lst (iDs ys), [], e2, pfs_iDs ys, by rw [e1]; rfl, by rw [e1]; exact h v ys h0⟩)
/-! the numbers -/
theorem cut_iDs (xs : List Int) (lo hi : Option Int) : ∃ ys, cutD (iDs xs) lo hi = iDs ys ∧ ys.length ≤ xs.length := by
  unfold cutD iDs
  rw [List.length_map, ← List.map_drop, ← List.map_take]
  exact ⟨_, rfl, by rw [List.length_take, List.length_drop]; omega⟩
theorem iDs_mem {xs : List Int} {j : Nat} {d : D} (h : (iDs xs)[j]? = some d) : ∃ v, d = .int v ∧ j < xs.length ∧ xs[j]? = some v := by
  rw [iDs_get] at h
  cases e : xs[j]? with
  | none => rw [e] at h; cases h
  | some v =>
    rw [e] at h; cases h
    refine ⟨v, rfl, ?_, rfl⟩
    by_cases z : j < xs.length
    · exact z
    · rw [List.getElem?_eq_none (by omega)] at e; cases e
theorem s_numbers (ns : List Int) (hl : ns.length ≤ 63) : Ens (m_law_numbers [.scr ns] []) fun d cs => ∃ j xs, d = .ptr j ∧ cs[j]? = some (some (.lst (iDs xs))) := by
  refine ens_def [some (.scr ns), none, none, none, none] rfl ?_
  unfold b_law_numbers
  repeat walk_at "es"
  refine ⟨by decide, ?_⟩
  repeat walk_at "es"
  refine ens_gsl (ds := iDs ns) rfl ?_
  obtain ⟨ms, e, hm⟩ := cut_iDs ns none (some 63)
  rw [e]
  refine ens_red rfl ⟨_, .inl rfl, ?_⟩
  refine ens_for0 (fun j sl st => ∃ xs a b c, sl = [some (.scr ns), some (.ptr 0), a, b, c] ∧ st = [some (.lst (iDs xs))] ∧ xs.length ≤ 60 * j) ⟨[], none, none, none, rfl, rfl, Nat.le_refl _⟩ (fun j d sl st hd hI => ?_) (fun sl st hI => ?_)
  · obtain ⟨xs, a, b, c, rfl, rfl, hx⟩ := hI
    obtain ⟨cell, rfl, hj, _⟩ := iDs_mem hd
    refine ens_red rfl ?_
    repeat walk_at "es"
    refine ens_I (by decide) ?_
    refine ens_red rfl ⟨_, rfl, fun _ => ?_, fun _ => ?_⟩
    · repeat walk_at "es"
      refine ⟨by decide, ?_⟩
      refine ens_for0 (fun i sl st => ∃ xs cell b, sl = [some (.scr ns), some (.ptr 0), some (.int cell), b, c] ∧ st = [some (.lst (iDs xs))] ∧ xs.length ≤ 60 * j + i) ⟨xs, cell, b, rfl, rfl, hx⟩ (fun i d sl st hd hI => ?_) (fun sl st hI => ?_)
      · obtain ⟨xs, cell, b, rfl, rfl, hx⟩ := hI
        have hi : i < 60 := by
          by_cases z : i < 60
          · exact z
          · rw [List.getElem?_eq_none (by show (rngD 0 60).length ≤ i; exact Nat.le_trans (by decide : (rngD 0 60).length ≤ 60) (by omega))] at hd; cases hd
        refine ens_red rfl ?_
        repeat walk_at "es"
        refine ens_red rfl ⟨_, rfl, fun _ => ?_, fun _ => ?_⟩
        · repeat walk_at "es"
          refine ⟨rfl, ?_⟩
          repeat walk_at "es"
          refine ens_red rfl ?_
          repeat walk_at "es"
          refine ens_I (by decide) ?_
          repeat walk_at "es"
          refine ens_app (ds := iDs xs) rfl (by rw [iDs_len]; unfold PySem.sizeLine; omega) ?_
          repeat walk_at "es"
          refine ens_I (by unfold CDiv; decide) ?_
          exact ⟨xs ++ [cell % 1000], _, _, rfl, by rw [iDs_app]; rfl, by rw [List.length_append, List.length_singleton]; omega⟩
        · repeat walk_at "es"
          exact ⟨xs, cell, _, rfl, rfl, by omega⟩
      · obtain ⟨xs, cell, b, rfl, rfl, hx⟩ := hI
        have e : (rngD 0 (60 : Int).toNat).length = 60 := by decide
        rw [e] at hx
        exact ⟨xs, _, _, _, rfl, rfl, by omega⟩
    · repeat walk_at "es"
      refine ens_I (by unfold CMul; exact .inr (by decide)) ?_
      repeat walk_at "es"
      refine ens_red rfl ?_
      repeat walk_at "es"
      refine ens_red rfl ?_
      repeat walk_at "es"
      refine ens_I (by decide) ?_
      repeat walk_at "es"
      refine ⟨by decide, ?_⟩
      refine ens_for0 (fun i sl st => ∃ xs b s, sl = [some (.scr ns), some (.ptr 0), some (.int cell), b, some (.int s)] ∧ st = [some (.lst (iDs xs))] ∧ xs.length ≤ 60 * j + i) ⟨xs, b, _, rfl, rfl, hx⟩ (fun i d sl st hd hI => ?_) (fun sl st hI => ?_)
      · obtain ⟨xs, b, s, rfl, rfl, hx⟩ := hI
        have hi : i < 9 ∧ ∃ v : Int, d = .int v := by
          by_cases z : i < 9
          · refine ⟨z, ?_⟩
            unfold rngD at hd
            rw [List.getElem?_map, List.getElem?_range (by exact z)] at hd
            cases hd; exact ⟨_, rfl⟩
          · rw [List.getElem?_eq_none (by show (rngD 0 9).length ≤ i; exact Nat.le_trans (by decide : (rngD 0 9).length ≤ 9) (by omega))] at hd; cases hd
        obtain ⟨hi, v, rfl⟩ := hi
        refine ens_red rfl ?_
        repeat walk_at "es"
        refine ens_I (by unfold CMul; exact .inr (by decide)) ?_
        repeat walk_at "es"
        refine ens_I (by unfold CMul; exact .inl (by decide)) ?_
        refine ens_red rfl ?_
        repeat walk_at "es"
        refine ens_red rfl ?_
        repeat walk_at "es"
        refine ens_red rfl ?_
        repeat walk_at "es"
        refine ens_I (by decide) ?_
        repeat walk_at "es"
        refine ⟨rfl, ?_⟩
        repeat walk_at "es"
        refine ens_red rfl ?_
        repeat walk_at "es"
        refine ens_I (by decide) ?_
        repeat walk_at "es"
        refine ens_I (by unfold CMul; exact .inr (by decide)) ?_
        repeat walk_at "es"
        refine ens_I (by unfold CDiv; decide) ?_
        refine ens_red rfl ?_
        repeat walk_at "es"
        refine ens_red rfl ?_
        repeat walk_at "es"
        refine ens_I (by decide) ?_
        repeat walk_at "es"
        refine ens_app (ds := iDs xs) rfl (by rw [iDs_len]; unfold PySem.sizeLine; omega) ?_
        exact ⟨xs ++ [_], _, _, rfl, by rw [iDs_app]; rfl, by rw [List.length_append, List.length_singleton]; omega⟩
      · obtain ⟨xs, b, s, rfl, rfl, hx⟩ := hI
        have e : (rngD 0 (9 : Int).toNat).length = 9 := by decide
        rw [e] at hx
        exact ⟨xs, _, _, _, rfl, rfl, by omega⟩
  · obtain ⟨xs, a, b, c, rfl, rfl, hx⟩ := hI
    repeat walk_at "es"
    refine ens_gsl (ds := iDs xs) rfl ?_
    obtain ⟨ys, e, _⟩ := cut_iDs xs none (some 300)
    rw [e]
    refine ens_red rfl ?_
    repeat walk_at "es"
    refine ⟨rfl, ?_⟩
    refine ens_red rfl ?_
    repeat walk_at "es"
    exact ⟨1, ys.reverse, rfl, by show some (some (Cell.lst (iDs ys).reverse)) = _; unfold iDs; rw [← List.map_reverse]⟩

/-! ### dicts -/
section
variable {κ : Type} [DecidableEq κ]
theorem look_mem {G : List (κ × D)} {k : κ} {d : D} (h : lookD G k = some d) : (k, d) ∈ G := by
  unfold lookD at h
  cases e : G.find? fun kv => decide (kv.1 = k) with
  | none => rw [e] at h; cases h
  | some kv =>
    rw [e] at h
    have h1 := List.find?_some e
    have h2 := List.mem_of_find?_eq_some e
    cases h
    obtain ⟨a, b⟩ := kv
    have h1 : a = k := of_decide_eq_true h1
    subst h1; exact h2
theorem look_ex {G : List (κ × D)} {k : κ} (h : ∃ d, (k, d) ∈ G) : ∃ d, lookD G k = some d := by
  obtain ⟨d, h⟩ := h
  unfold lookD
  cases e : G.find? fun kv => decide (kv.1 = k) with
  | none =>
    rw [List.find?_eq_none] at e
    exact absurd (decide_eq_true rfl) (e _ h)
  | some kv => exact ⟨_, rfl⟩
theorem put_mem {G : List (κ × D)} {k : κ} {d : D} {kv : κ × D} (h : kv ∈ putD G k d) : kv ∈ G ∨ kv = (k, d) := by
  unfold putD at h
  by_cases z : (G.any fun kv => decide (kv.1 = k)) = true
  · rw [if_pos z, List.mem_map] at h
    obtain ⟨x, hx, e⟩ := h
    by_cases q : x.1 = k
    · rw [if_pos q] at e; rw [← e, q]; exact .inr rfl
    · rw [if_neg q] at e; rw [← e]; exact .inl hx
  · rw [if_neg z, List.mem_append, List.mem_singleton] at h
    exact h
theorem put_len {G : List (κ × D)} {k : κ} {d : D} : (putD G k d).length ≤ G.length + 1 := by
  unfold putD
  by_cases z : (G.any fun kv => decide (kv.1 = k)) = true
  · rw [if_pos z, List.length_map]; omega
  · rw [if_neg z, List.length_append]; exact Nat.le_refl _
theorem put_ne {G : List (κ × D)} {k : κ} {d : D} : putD G k d ≠ [] := by
  unfold putD
  by_cases z : (G.any fun kv => decide (kv.1 = k)) = true
  · rw [if_pos z]
    intro e
    rw [List.map_eq_nil_iff] at e
    subst e; cases z
  · rw [if_neg z]; simp
end
theorem dput_str {st : Sto} {i : Nat} {G : List (Key × D)} {s : Str} {v : D} (e : cellK st i = some G) (h : G.length < sizeLine) : dPut st (.ptr i) (.str s) v = some (st.set i (some (.dct (putD G (.inr s) v)))) := by
  show (match cellK st i, some (Sum.inr s) with
    | some ds, some k => if ds.length < sizeLine then some (st.set i (some (.dct (putD ds k v)))) else none
    | _, _ => none) = _
  rw [e]
  exact if_pos h
theorem dput_two {st : Sto} {i : Nat} {G : List (List Key × D)} {s t : Str} {v : D} (e : cellT st i = some G) (h : G.length < sizeLine) : dPut st (.ptr i) (.tup [.str s, .str t]) v = some (st.set i (some (.dcT (putD G [.inr s, .inr t] v)))) := by
  show (match cellT st i, some [Sum.inr s, Sum.inr t] with
    | some ds, some k => if ds.length < sizeLine then some (st.set i (some (.dcT (putD ds k v)))) else none
    | _, _ => none) = _
  rw [e]
  exact if_pos h
/-! ### fonts -/
def Tri (d : D) : Prop := ∃ w h p : Int, d = .tup [.int w, .int h, .int p] ∧ 1 ≤ w ∧ 0 ≤ h ∧ 0 ≤ p
def GE (kv : Key × D) : Prop := (∃ s, kv.1 = .inr s ∧ PyData.strOk s = true) ∧ Tri kv.2
def GOK (G : List (Key × D)) : Prop := ∀ kv ∈ G, GE kv
def Nm (G : List (Key × D)) (d : D) : Prop := ∃ s, d = .str s ∧ ∃ t, lookD G (.inr s) = some t ∧ Tri t
def KE (G : List (Key × D)) (kv : List Key × D) : Prop := ∃ a b, ∃ v : Int, kv = ([.inr a, .inr b], .int v) ∧ Nm G (.str a) ∧ Nm G (.str b) ∧ ∀ w h p : Int, lookD G (.inr a) = some (.tup [.int w, .int h, .int p]) → 0 < w + v
def KOK (G : List (Key × D)) (N : List (List Key × D)) : Prop := ∀ kv ∈ N, KE G kv
theorem gok_put {G : List (Key × D)} {s : Str} {d : D} (h : GOK G) (o : PyData.strOk s = true) (t : Tri d) : GOK (putD G (.inr s) d) := fun kv m => by
  rcases put_mem m with m | rfl
  · exact h kv m
  · exact ⟨⟨s, rfl, o⟩, t⟩
theorem kok_put {G : List (Key × D)} {N : List (List Key × D)} {kv : List Key × D} (h : KOK G N) (t : KE G kv) : KOK G (putD N kv.1 kv.2) := fun x m => by
  rcases put_mem m with m | rfl
  · exact h x m
  · exact t
theorem nm_of {G : List (Key × D)} {s : Str} (h : GOK G) (m : ∃ d, (Sum.inr s, d) ∈ G) : Nm G (.str s) := by
  obtain ⟨t, e⟩ := look_ex m
  exact ⟨s, rfl, t, e, (h _ (look_mem e)).2⟩
theorem nm_ok {G : List (Key × D)} {s : Str} (h : GOK G) (n : Nm G (.str s)) : PyData.strOk s = true := by
  obtain ⟨s, e, t, l, _⟩ := n
  cases e
  obtain ⟨⟨s, e, o⟩, _⟩ := h _ (look_mem l)
  cases e
  exact o
theorem tri_pf {d : D} (h : Tri d) : pf d = true := by
  obtain ⟨w, x, p, rfl, _⟩ := h
  rfl
theorem gok_pf {G : List (Key × D)} (h : GOK G) : pfk G = true := by
  induction G with
  | nil => rfl
  | cons kv r ih =>
    obtain ⟨k, d⟩ := kv
    rw [pfk, ih fun x m => h x (List.mem_cons_of_mem _ m), tri_pf (h _ List.mem_cons_self).2]; rfl
theorem kok_pf {G : List (Key × D)} {N : List (List Key × D)} (h : KOK G N) : pft N = true := by
  induction N with
  | nil => rfl
  | cons kv r ih =>
    obtain ⟨a, b, v, rfl, _⟩ := h kv List.mem_cons_self
    rw [pft, ih fun x m => h x (List.mem_cons_of_mem _ m)]; rfl
/-! sorted names -/
theorem atI_in {α : Type} {ds : List α} {v : Int} (h0 : 0 ≤ v) (h1 : v < ds.length) : ∃ d, d ∈ ds ∧ atI ds v = some d := by
  obtain ⟨n, rfl⟩ := Int.eq_ofNat_of_zero_le h0
  have hn : n < ds.length := by omega
  exact ⟨ds[n], List.getElem_mem hn, at_nat (List.getElem?_eq_getElem hn)⟩
theorem sortOk_str {ds : List D} (h : ∀ d ∈ ds, ∃ s, d = .str s) : sortOk ds = true := by
  unfold sortOk
  rw [Bool.and_eq_true, Bool.and_eq_true, Bool.or_eq_true]
  refine ⟨⟨?_, ?_⟩, .inr ?_⟩
  · rw [List.all_eq_true]; intro d m
    obtain ⟨s, rfl⟩ := h d m
    rfl
  · rw [List.all_eq_true]; intro d m
    rw [List.all_eq_true]; intro e n
    obtain ⟨s, rfl⟩ := h d m
    obtain ⟨t, rfl⟩ := h e n
    rfl
  · rw [List.all_eq_true]; intro d m
    obtain ⟨s, rfl⟩ := h d m
    rfl
theorem sortOk_two {ds : List D} (h : ∀ d ∈ ds, ∃ s t, d = .tup [.str s, .str t]) : sortOk ds = true := by
  unfold sortOk
  rw [Bool.and_eq_true, Bool.and_eq_true, Bool.or_eq_true]
  refine ⟨⟨?_, ?_⟩, .inl ?_⟩
  · rw [List.all_eq_true]; intro d m
    obtain ⟨s, t, rfl⟩ := h d m
    rfl
  · rw [List.all_eq_true]; intro d m
    rw [List.all_eq_true]; intro e n
    obtain ⟨s, t, rfl⟩ := h d m
    obtain ⟨u, v, rfl⟩ := h e n
    rfl
  · rw [List.all_eq_true]; intro d m
    obtain ⟨s, t, rfl⟩ := h d m
    rfl
theorem sort_mem {ds : List D} {d : D} (h : d ∈ ds.mergeSort leD) : d ∈ ds := (List.mergeSort_perm ds leD).mem_iff.mp h
theorem keys_nm {G : List (Key × D)} (h : GOK G) {d : D} (m : d ∈ G.map fun p => kD p.1) : Nm G d := by
  rw [List.mem_map] at m
  obtain ⟨⟨k, x⟩, m, rfl⟩ := m
  obtain ⟨⟨s, e, _⟩, _⟩ := h _ m
  have e : k = .inr s := e
  subst e
  exact nm_of h ⟨x, m⟩
theorem chr_str {x : Str} {j : Nat} {d : D} (h : (chrD x)[j]? = some d) : ∃ s, d = .str s := by
  unfold chrD at h
  rw [List.getElem?_map] at h
  cases e : x.cps.toList[j]? with
  | none => rw [e] at h; cases h
  | some c => rw [e] at h; cases h; exact ⟨_, rfl⟩
def shortS : D → Bool
  | .str s => decide (s.length ≤ sizeLine) && PyData.strOk s
  | _ => false
theorem short_of {ds : List D} {j : Nat} {d : D} (h : ds.all shortS = true) (e : ds[j]? = some d) : ∃ s, d = .str s ∧ s.length ≤ sizeLine ∧ PyData.strOk s = true := by
  have m := List.mem_of_getElem? e
  rw [List.all_eq_true] at h
  have := h d m
  cases d with
  | str s =>
    have h2 : (decide (s.length ≤ sizeLine) && PyData.strOk s) = true := this
    rw [Bool.and_eq_true] at h2
    exact ⟨s, rfl, of_decide_eq_true h2.1, h2.2⟩
  | _ => cases this
theorem idx_lt {α : Type} {ds : List α} {j : Nat} {d : α} (h : ds[j]? = some d) : j < ds.length := by
  by_cases z : j < ds.length
  · exact z
  · rw [List.getElem?_eq_none (by omega)] at h; cases h
theorem s_font (nm : Str) (xs : List Int) : Ens (m_law_font [.ptr 0, .str nm] [some (.lst (iDs xs))]) fun d cs => ∃ G N ys rest, d = .tup [.str "font", .str nm, .dct G, .dcT N] ∧ GOK G ∧ KOK G N ∧ G ≠ [] ∧ cs = some (.lst (iDs ys)) :: rest := by
  refine ens_def [some (.ptr 0), some (.str nm), none, none, none, none, none, none, none, none] rfl ?_
  unfold b_law_font
  repeat walk_at "es"
  refine ⟨_, .inr (.inr (.inl ⟨_, rfl, rfl⟩)), ?_⟩
  refine ens_for0 (fun j sl st => ∃ xs G a, sl = [some (.ptr 0), some (.str nm), some (.ptr 1), a, none, none, none, none, none, none] ∧ st = [some (.lst (iDs xs)), some (.dct G)] ∧ GOK G ∧ G.length ≤ j) ⟨xs, [], _, rfl, rfl, fun _ m => (by cases m), Nat.le_refl _⟩ (fun j d sl st hd hI => ?_) (fun sl st hI => ?_)
  · obtain ⟨xs, G, a, rfl, rfl, hG, hj⟩ := hI
    obtain ⟨s, rfl, _, hok⟩ := short_of (by decide +kernel) hd
    have hj7 : j < 7 := idx_lt hd
    refine ens_red rfl ?_
    repeat walk_at "es"
    refine s_amountB (by decide) xs fun v1 xs1 h1 => ?_
    repeat walk_at "es"
    refine ens_red rfl ?_
    repeat walk_at "es"
    refine s_amountB (by decide) xs1 fun v2 xs2 h2 => ?_
    repeat walk_at "es"
    refine s_amountB (by decide) xs2 fun v3 xs3 h3 => ?_
    repeat walk_at "es"
    refine ⟨(by decide : (3 : Nat) ≤ 1000), ?_⟩
    repeat walk_at "es"
    refine ⟨_, dput_str (G := G) rfl (by unfold PySem.sizeLine; omega), xs3, _, _, rfl, rfl, gok_put hG hok ⟨_, _, _, rfl, (by show 1 ≤ (if v1 > 1 then v1 else 1); split <;> omega), h2, h3⟩, ?_⟩
    exact Nat.le_trans put_len (by omega)
  · obtain ⟨xs, G, a, rfl, rfl, hG, hj⟩ := hI
    have hj : G.length ≤ 7 := hj
    repeat walk_at "es"
    refine ⟨by decide, ?_⟩
    refine ⟨_, .inl rfl, ?_⟩
    refine ens_for0 (fun j sl st => ∃ xs G b, sl = [some (.ptr 0), some (.str nm), some (.ptr 1), a, b, none, none, none, none, none] ∧ st = [some (.lst (iDs xs)), some (.dct G)] ∧ GOK G ∧ G.length ≤ 7 + j) ⟨xs, G, _, rfl, rfl, hG, hj⟩ (fun j d sl st hd hI => ?_) (fun sl st hI => ?_)
    · obtain ⟨xs, G, b, rfl, rfl, hG, hj⟩ := hI
      obtain ⟨s, rfl, hs, hok⟩ := short_of (by decide +kernel) hd
      have hj7 : j < 12 := idx_lt hd
      refine ens_red rfl ?_
      repeat walk_at "es"
      refine s_pickB (by decide) xs fun v ys _ _ => ?_
      repeat walk_at "es"
      refine ens_red rfl ⟨_, rfl, fun _ => ?_, fun _ => ⟨fun z => (by cases z), fun _ => ?_⟩⟩
      · repeat walk_at "es"
        refine ens_red rfl ?_
        repeat walk_at "es"
        refine ens_red (if_pos hs) ?_
        repeat walk_at "es"
        refine ⟨fun _ => ?_, fun _ => ?_⟩
        · repeat walk_at "es"
          refine s_amountB (by decide) ys fun v1 xs1 h1 => ?_
          repeat walk_at "es"
          refine ens_red rfl ?_
          repeat walk_at "es"
          refine s_amountB (by decide) xs1 fun v2 xs2 h2 => ?_
          repeat walk_at "es"
          refine s_amountB (by decide) xs2 fun v3 xs3 h3 => ?_
          repeat walk_at "es"
          refine ⟨(by decide : (3 : Nat) ≤ 1000), ?_⟩
          repeat walk_at "es"
          refine ⟨_, dput_str (G := G) rfl (by unfold PySem.sizeLine; omega), xs3, _, _, rfl, rfl, gok_put hG hok ⟨_, _, _, rfl, (by show 1 ≤ (if v1 > 1 then v1 else 1); split <;> omega), h2, h3⟩, ?_⟩
          exact Nat.le_trans put_len (by omega)
        · repeat walk_at "es"
          exact ⟨_, _, _, rfl, rfl, hG, by omega⟩
      · repeat walk_at "es"
        exact ⟨_, _, _, rfl, rfl, hG, by omega⟩
    · obtain ⟨xs, G, b, rfl, rfl, hG, hj⟩ := hI
      have hj : G.length ≤ 19 := hj
      repeat walk_at "es"
      refine s_pickB (by decide) xs fun v1 xs1 h1 _ => ?_
      repeat walk_at "es"
      refine ens_red rfl ?_
      repeat walk_at "es"
      refine s_pickB (by decide) xs1 fun v2 xs2 h2 _ => ?_
      repeat walk_at "es"
      refine ⟨(by decide : (3 : Nat) ≤ 1000), ?_⟩
      repeat walk_at "es"
      refine ⟨_, dput_str (G := G) rfl (by unfold PySem.sizeLine; omega), ?_⟩
      have hG2 : GOK (putD G (.inr "-\n") (.tup [.int (1 + v1), .int v2, .int 0])) := gok_put hG (by decide +kernel) ⟨_, _, _, rfl, by omega, h2, Int.le_refl _⟩
      have hne : putD G (Sum.inr "-\n") (.tup [.int (1 + v1), .int v2, .int 0]) ≠ [] := put_ne
      revert hG2 hne
      generalize putD G (Sum.inr "-\n") (.tup [.int (1 + v1), .int v2, .int 0]) = G
      intro hG hne
      repeat walk_at "es"
      refine ens_sort rfl (sortOk_str fun d m => ?_) ?_
      · obtain ⟨s, e, _⟩ := keys_nm hG m
        exact ⟨s, e⟩
      have hnm : ∀ d ∈ (G.map fun p => kD p.1).mergeSort leD, Nm G d := fun d m => keys_nm hG (sort_mem m)
      have hnl : 0 < ((G.map fun p => kD p.1).mergeSort leD).length := by
        rw [List.length_mergeSort, List.length_map]
        exact List.length_pos_iff.mpr hne
      revert hnm hnl
      generalize (G.map fun p => kD p.1).mergeSort leD = names
      intro hnm hnl
      repeat walk_at "es"
      refine s_pickB (by decide) xs2 fun v3 xs3 h3 h4 => ?_
      repeat walk_at "es"
      refine ⟨by omega, ?_⟩
      refine ens_for0 (fun j sl st => ∃ xs N p q r, sl = [some (.ptr 0), some (.str nm), some (.ptr 1), a, b, some (.ptr 2), some (.lst names), p, q, r] ∧ st = [some (.lst (iDs xs)), some (.dct G), some (.dcT N)] ∧ KOK G N ∧ N.length ≤ j) ⟨xs3, [], _, _, _, rfl, rfl, fun _ m => (by cases m), Nat.le_refl _⟩ (fun j d sl st hd hI => ?_) (fun sl st hI => ?_)
      · obtain ⟨xs, N, p, q, r, rfl, rfl, hN, hj⟩ := hI
        have hj7 : j < 12 := by
          have := idx_lt hd
          unfold rngD at this
          rw [List.length_map, List.length_range] at this
          omega
        refine ens_red rfl ?_
        repeat walk_at "es"
        refine ens_len (ds := names) rfl ?_
        repeat walk_at "es"
        refine s_pickB (by omega) xs fun u1 xs1 h1 h2 => ?_
        obtain ⟨d1, m1, e1⟩ := atI_in h1 h2
        refine ens_ix (ds := names) rfl e1 ?_
        repeat walk_at "es"
        refine ens_len (ds := names) rfl ?_
        repeat walk_at "es"
        refine s_pickB (by omega) xs1 fun u2 xs2 h3 h4 => ?_
        obtain ⟨d2, m2, e2⟩ := atI_in h3 h4
        refine ens_ix (ds := names) rfl e2 ?_
        obtain ⟨s1, rfl, t1, k1, w1, hh1, p1, rfl, g1, g2, g3⟩ := hnm d1 m1
        obtain ⟨s2, rfl, t2, k2, T2⟩ := hnm d2 m2
        repeat walk_at "es"
        refine ⟨.tup [.int w1, .int hh1, .int p1], by show some (lookD G (.inr s1)) = _; rw [k1], ?_⟩
        repeat walk_at "es"
        refine ens_red rfl ?_
        repeat walk_at "es"
        refine ens_red rfl ?_
        repeat walk_at "es"
        refine s_pickB (by show 0 < (if w1 < 30 then w1 else 30); split <;> omega) xs2 fun u3 xs3 h5 h6 => ?_
        refine ens_red rfl ?_
        repeat walk_at "es"
        refine ⟨(by decide : (2 : Nat) ≤ 1000), ?_⟩
        refine ⟨_, dput_two (G := N) rfl (by unfold PySem.sizeLine; omega), xs3, _, _, _, _, rfl, rfl, kok_put (kv := ([.inr s1, .inr s2], .int (0 - u3))) hN ⟨s1, s2, _, rfl, ⟨s1, rfl, _, k1, _, _, _, rfl, g1, g2, g3⟩, ⟨s2, rfl, t2, k2, T2⟩, fun w h p e => ?_⟩, Nat.le_trans put_len (by omega)⟩
        rw [k1] at e
        cases e
        have h6 : u3 < (if w1 < 30 then w1 else 30) := h6
        split at h6 <;> omega
      · obtain ⟨xs, N, p, q, r, rfl, rfl, hN, hj⟩ := hI
        repeat walk_at "es"
        exact ⟨(by decide : (4 : Nat) ≤ 1000), G, N, xs, _, rfl, hG, hN, hne, rfl⟩

abbrev fontD (nm : Str) (G : List (Key × D)) (N : List (List Key × D)) : D := .tup [.str "font", .str nm, .dct G, .dcT N]
theorem font_pf {nm : Str} {G : List (Key × D)} {N : List (List Key × D)} (hG : GOK G) (hN : KOK G N) : pf (fontD nm G N) = true := by
  simp only [pf, pfs, gok_pf hG, kok_pf hN]; rfl
theorem s_fontB (nm : Str) (xs : List Int) {st : Sto} {Q : D → Sto → Prop} (h : ∀ G N ys, GOK G → KOK G N → G ≠ [] → Q (fontD nm G N) (some (.lst (iDs ys)) :: st)) : Ens (callB 2 m_law_font [.ptr 0, .str nm] (some (.lst (iDs xs)) :: st)) Q :=
  ens_B1 rfl rfl (pfs_iDs xs) ((s_font nm xs).imp fun d cs ⟨G, N, ys, rest, e1, hG, hN, hne, e2⟩ => ⟨.lst (iDs ys), rest, e2, pfs_iDs ys, by
    rw [e1]
    exact font_pf hG hN, by rw [e1]; exact h G N ys hG hN hne⟩)
theorem nm_pf {G : List (Key × D)} {d : D} (h : Nm G d) : pf d = true := by
  obtain ⟨s, rfl, _⟩ := h
  rfl
theorem nms_pf {G : List (Key × D)} {ds : List D} (h : ∀ d ∈ ds, Nm G d) : pfs ds = true := by
  induction ds with
  | nil => rfl
  | cons d r ih =>
    rw [pfs, ih fun e m => h e (List.mem_cons_of_mem _ m), nm_pf (h d List.mem_cons_self)]; rfl
theorem rng_lt {lo : Int} {n j : Nat} {d : D} (h : (rngD lo n)[j]? = some d) : j < n ∧ d = .int (lo + (j : Int)) := by
  have := idx_lt h
  unfold rngD at this h
  rw [List.length_map, List.length_range] at this
  rw [List.getElem?_map, List.getElem?_range this] at h
  cases h
  exact ⟨this, rfl⟩
theorem s_glyphs {nm : Str} {G : List (Key × D)} {N : List (List Key × D)} (hG : GOK G) (hN : KOK G N) (hne : G ≠ []) (xs : List Int) : Ens (m_law_glyphs [.ptr 0, fontD nm G N] [some (.lst (iDs xs))]) fun d cs => ∃ L ys rest, d = .lst L ∧ (∀ d ∈ L, Nm G d) ∧ L.length ≤ 29 ∧ cs = some (.lst (iDs ys)) :: rest := by
  refine ens_def [some (.ptr 0), some (fontD nm G N), none, none, none, none, none] rfl ?_
  unfold b_law_glyphs
  repeat walk_at "es"
  refine ens_red rfl ?_
  refine ⟨_, rfl, ?_⟩
  repeat walk_at "es"
  refine ens_sort rfl (sortOk_str fun d m => ?_) ?_
  · obtain ⟨s, e, _⟩ := keys_nm hG m
    exact ⟨s, e⟩
  have hnm : ∀ d ∈ (G.map fun p => kD p.1).mergeSort leD, Nm G d := fun d m => keys_nm hG (sort_mem m)
  have hnl : 0 < ((G.map fun p => kD p.1).mergeSort leD).length := by
    rw [List.length_mergeSort, List.length_map]
    exact List.length_pos_iff.mpr hne
  revert hnm hnl
  generalize (G.map fun p => kD p.1).mergeSort leD = names
  intro hnm hnl
  repeat walk_at "es"
  refine ens_red rfl ?_
  refine ⟨_, rfl, ?_⟩
  repeat walk_at "es"
  have hp : ∀ d ∈ N.map (fun p => D.tup (p.1.map kD)), ∃ s t, d = .tup [.str s, .str t] ∧ Nm G (.str s) ∧ Nm G (.str t) := fun d m => by
    rw [List.mem_map] at m
    obtain ⟨kv, m, rfl⟩ := m
    obtain ⟨a, b, v, rfl, h1, h2, _⟩ := hN kv m
    exact ⟨a, b, rfl, h1, h2⟩
  refine ens_sort rfl (sortOk_two fun d m => ?_) ?_
  · obtain ⟨s, t, e, _⟩ := hp d m
    exact ⟨s, t, e⟩
  have hp2 : ∀ d ∈ (N.map (fun p => D.tup (p.1.map kD))).mergeSort leD, ∃ s t, d = .tup [.str s, .str t] ∧ Nm G (.str s) ∧ Nm G (.str t) := fun d m => hp d (sort_mem m)
  revert hp2
  generalize (N.map (fun p => D.tup (p.1.map kD))).mergeSort leD = pairs
  intro hp2
  repeat walk_at "es"
  refine ⟨by decide, ?_⟩
  repeat walk_at "es"
  refine s_pickB (by decide) xs fun v3 xs3 h3 h4 => ?_
  repeat walk_at "es"
  refine ⟨by omega, ?_⟩
  refine ens_for0 (fun j sl st => ∃ xs rest i L a b, sl = [some (.ptr 0), some (fontD nm G N), some (.lst names), some (.lst pairs), some (.ptr (i + 1)), a, b] ∧ st = some (.lst (iDs xs)) :: rest ∧ rest[i]? = some (some (.lst L)) ∧ (∀ d ∈ L, Nm G d) ∧ L.length ≤ 2 * j) ⟨xs3, [some (.lst [])], 0, [], none, none, rfl, rfl, rfl, fun _ m => (by cases m), Nat.le_refl _⟩ (fun j d sl st hd hI => ?_) (fun sl st hI => ?_)
  · obtain ⟨xs, rest, i, L, a, b, rfl, rfl, hi, hL, hll⟩ := hI
    obtain ⟨hj, rfl⟩ := rng_lt hd
    have hj : j < 20 := by omega
    have cl : ∀ x : Option Cell, cellL (x :: rest) (i + 1) = some L := fun x => by
      unfold cellL
      rw [List.getElem?_cons_succ, hi]
    have other : ∀ ys b, Ens (callB 2 m_law_pick [.ptr 0, .int (names.length : Int)] (some (.lst (iDs ys)) :: rest)) fun v st => Ens (gIx st (.lst names) v) fun y st => Ens (gAppend st (.ptr (i + 1)) [y]) fun _ st => ∃ xs rest i2 L a b2, ([some (.ptr 0), some (fontD nm G N), some (.lst names), some (.lst pairs), some (.ptr (i + 1)), some (.int (0 + (j : Int))), b] : Sl) = [some (.ptr 0), some (fontD nm G N), some (.lst names), some (.lst pairs), some (.ptr (i2 + 1)), a, b2] ∧ st = some (.lst (iDs xs)) :: rest ∧ rest[i2]? = some (some (.lst L)) ∧ (∀ d ∈ L, Nm G d) ∧ L.length ≤ 2 * (j + 1) := fun ys b => by
      refine s_pickB (by omega) ys fun u xs1 h1 h2 => ?_
      obtain ⟨d1, m1, e1⟩ := atI_in h1 h2
      refine ens_ix (ds := names) rfl e1 ?_
      refine ens_app (ds := L) hi (by unfold PySem.sizeLine; omega) ?_
      refine ⟨xs1, rest.set i (some (.lst (L ++ [d1]))), i, L ++ [d1], _, _, rfl, rfl, ?_, fun d m => ?_, by rw [List.length_append, List.length_singleton]; omega⟩
      · exact List.getElem?_set_self (idx_lt hi)
      · rcases List.mem_append.mp m with m | m
        · exact hL d m
        · rw [List.mem_singleton] at m; subst m; exact hnm _ m1
    refine ens_red rfl ?_
    repeat walk_at "es"
    refine ens_len (ds := pairs) rfl ?_
    repeat walk_at "es"
    refine ens_red rfl ⟨_, rfl, fun hz => ?_, fun _ => ⟨fun z => (by cases z), fun _ => ?_⟩⟩
    · have hz : (0 : Int) < pairs.length := of_decide_eq_true hz
      repeat walk_at "es"
      refine s_pickB (by decide) xs fun u ys _ _ => ?_
      repeat walk_at "es"
      refine ens_eqI ⟨_, rfl, fun _ => ?_, fun _ => ?_⟩
      · repeat walk_at "es"
        refine ens_len (ds := pairs) rfl ?_
        repeat walk_at "es"
        refine s_pickB (by omega) ys fun u xs1 h1 h2 => ?_
        obtain ⟨d1, m1, e1⟩ := atI_in h1 h2
        refine ens_ix (ds := pairs) rfl e1 ?_
        obtain ⟨s, t, rfl, n1, n2⟩ := hp2 _ m1
        repeat walk_at "es"
        refine ens_red rfl ?_
        repeat walk_at "es"
        refine ens_red rfl ?_
        repeat walk_at "es"
        refine ⟨(by decide : (2 : Nat) ≤ 1000), ?_⟩
        refine ens_addL (cl _) rfl (by unfold PySem.sizeLine; show L.length + 2 ≤ _; omega) ?_
        refine ens_red rfl ⟨xs1, rest ++ [some (.lst (L ++ [.str s, .str t]))], rest.length, L ++ [.str s, .str t], _, _, rfl, rfl, ?_, fun d m => ?_, by rw [List.length_append]; show L.length + 2 ≤ _; omega⟩
        · rw [List.getElem?_append_right (Nat.le_refl _), Nat.sub_self]; rfl
        · rcases List.mem_append.mp m with m | m
          · exact hL d m
          · rcases List.mem_cons.mp m with rfl | m
            · exact n1
            · rw [List.mem_singleton] at m; subst m; exact n2
      · repeat walk_at "es"
        refine ⟨by show tyOk "list" _ (.ptr (i + 1)) = true; unfold tyOk; show (_ && (cellL _ (i + 1)).isSome) = true; rw [cl]; rfl, ?_⟩
        repeat walk_at "es"
        refine ens_len (ds := names) rfl ?_
        repeat walk_at "es"
        exact (other ys b).imp fun _ _ q => q.imp fun _ _ q => ens_nil q
    · repeat walk_at "es"
      refine ⟨by show tyOk "list" _ (.ptr (i + 1)) = true; unfold tyOk; show (_ && (cellL _ (i + 1)).isSome) = true; rw [cl]; rfl, ?_⟩
      repeat walk_at "es"
      refine ens_len (ds := names) rfl ?_
      repeat walk_at "es"
      exact (other xs b).imp fun _ _ q => q.imp fun _ _ q => ens_nil q
  · obtain ⟨xs, rest, i, L, a, b, rfl, rfl, hi, hL, hll⟩ := hI
    repeat walk_at "es"
    refine ens_gsl (ds := L) (by
      show cellL _ (i + 1) = some L
      unfold cellL
      rw [List.getElem?_cons_succ, hi]) ?_
    refine ens_red rfl ⟨_, xs, rest, rfl, fun d m => ?_, ?_, rfl⟩
    · exact hL d (List.mem_of_mem_drop (List.mem_of_mem_take m))
    · unfold cutD
      rw [List.length_take]
      refine Nat.le_trans (Nat.min_le_left _ _) ?_
      show (min 29 L.length) - 0 ≤ 29
      omega
theorem s_glyphsB {nm : Str} {G : List (Key × D)} {N : List (List Key × D)} (hG : GOK G) (hN : KOK G N) (hne : G ≠ []) (xs : List Int) {st : Sto} {Q : D → Sto → Prop} (h : ∀ L ys, (∀ d ∈ L, Nm G d) → L.length ≤ 29 → Q (.lst L) (some (.lst (iDs ys)) :: st)) : Ens (callB 2 m_law_glyphs [.ptr 0, fontD nm G N] (some (.lst (iDs xs)) :: st)) Q :=
  ens_B1 rfl (by rw [pfs, font_pf hG hN]; rfl) (pfs_iDs xs) ((s_glyphs hG hN hne xs).imp fun d cs ⟨L, ys, rest, e1, hL, hl, e2⟩ => ⟨.lst (iDs ys), rest, e2, pfs_iDs ys, by
    rw [e1]
    exact nms_pf hL, by rw [e1]; exact h L ys hL hl⟩)

/-! ### what a font says -/
def wd (G : List (Key × D)) : D → Int
  | .str s => match lookD G (.inr s) with
    | some (.tup [.int w, _, _]) => w
    | _ => 0
  | _ => 0
def ht (G : List (Key × D)) : D → Int
  | .str s => match lookD G (.inr s) with
    | some (.tup [_, .int w, _]) => w
    | _ => 0
  | _ => 0
def dp (G : List (Key × D)) : D → Int
  | .str s => match lookD G (.inr s) with
    | some (.tup [_, _, .int w]) => w
    | _ => 0
  | _ => 0
def kn (N : List (List Key × D)) : D → D → Int
  | .str s, .str t => match lookD N [.inr s, .inr t] with
    | some (.int v) => v
    | _ => 0
  | _, _ => 0
theorem nm_look {G : List (Key × D)} {d : D} (h : Nm G d) : ∃ s, d = .str s ∧ lookD G (.inr s) = some (.tup [.int (wd G d), .int (ht G d), .int (dp G d)]) ∧ 1 ≤ wd G d ∧ 0 ≤ ht G d ∧ 0 ≤ dp G d := by
  obtain ⟨s, rfl, t, e, w, x, p, rfl, h1, h2, h3⟩ := h
  have e1 : wd G (.str s) = w := by simp only [wd, e]
  have e2 : ht G (.str s) = x := by simp only [ht, e]
  have e3 : dp G (.str s) = p := by simp only [dp, e]
  rw [e1, e2, e3]
  exact ⟨s, rfl, e, h1, h2, h3⟩
theorem kn_look {G : List (Key × D)} {N : List (List Key × D)} (hN : KOK G N) {a b : D} (ha : Nm G a) (hb : Nm G b) : ∃ s t, a = .str s ∧ b = .str t ∧ (lookD N [.inr s, .inr t]).getD (.int 0) = .int (kn N a b) ∧ 0 < wd G a + kn N a b := by
  obtain ⟨s, rfl, e, h1, _⟩ := nm_look ha
  obtain ⟨t, rfl, _⟩ := nm_look hb
  refine ⟨s, t, rfl, rfl, ?_⟩
  cases q : lookD N [.inr s, .inr t] with
  | none =>
    have e1 : kn N (.str s) (.str t) = 0 := by simp only [kn, q]
    rw [e1]
    exact ⟨rfl, by omega⟩
  | some d =>
    obtain ⟨a, b, v, e2, _, _, h3⟩ := hN _ (look_mem q)
    injection e2 with e4 e5
    subst e5
    injection e4 with e6 e7
    injection e6 with e6
    subst e6
    have e1 : kn N (.str s) (.str t) = v := by simp only [kn, q]
    rw [e1]
    exact ⟨rfl, h3 _ _ _ e⟩
section
variable (G : List (Key × D)) (N : List (List Key × D)) (L : List D)
def stp (i : Nat) : Int := match L[i]? with
  | none => 0
  | some g => match L[i + 1]? with
    | some h => wd G g + kn N g h
    | none => wd G g
def ed : Nat → Int
  | 0 => 0
  | i + 1 => ed i + stp G N L i
def eds : List Int := (List.range (L.length + 1)).map (ed G N L)
def pe : Nat → Int
  | 0 => 0
  | i + 1 => ed G N L i + match L[i]? with
    | some g => wd G g
    | none => 0
end
variable {nm : Str} {G : List (Key × D)} {N : List (List Key × D)} {L : List D} {st : Sto}
theorem stp_two {i : Nat} {g h : D} (e : L[i]? = some g) (e2 : L[i + 1]? = some h) : stp G N L i = wd G g + kn N g h := by
  unfold stp; simp only [e, e2]
theorem stp_one {i : Nat} {g : D} (e : L[i]? = some g) (e2 : L[i + 1]? = none) : stp G N L i = wd G g := by
  unfold stp; simp only [e, e2]
theorem pe_succ {i : Nat} {g : D} (e : L[i]? = some g) : pe G N L (i + 1) = ed G N L i + wd G g := by
  unfold pe; simp only [e]
theorem pe_end : pe G N L L.length = ed G N L L.length := by
  cases e : L.length with
  | zero => rfl
  | succ n =>
    have hn : n < L.length := by omega
    rw [pe_succ (List.getElem?_eq_getElem hn), ed, stp_one (List.getElem?_eq_getElem hn) (List.getElem?_eq_none (by omega))]
theorem eds_at {i : Nat} (h : i ≤ L.length) : (eds G N L)[i]? = some (ed G N L i) := by
  unfold eds
  rw [List.getElem?_map, List.getElem?_range (by omega)]; rfl
theorem eds_len : (eds G N L).length = L.length + 1 := by
  unfold eds
  rw [List.length_map, List.length_range]
theorem ed_up (hN : KOK G N) (hL : ∀ d ∈ L, Nm G d) {i : Nat} (h : i < L.length) : ed G N L i < ed G N L (i + 1) := by
  have e := List.getElem?_eq_getElem h
  have n1 := hL _ (List.getElem_mem h)
  rw [ed]
  cases q : L[i + 1]? with
  | none =>
    obtain ⟨_, _, _, h1, _⟩ := nm_look n1
    rw [stp_one e q]; omega
  | some g =>
    obtain ⟨_, _, _, _, _, h2⟩ := kn_look hN n1 (hL g (List.mem_of_getElem? q))
    rw [stp_two e q]; omega
theorem range_more (f : Nat → Int) (n : Nat) : iDs ((List.range (n + 1)).map f) = iDs ((List.range n).map f) ++ [.int (f n)] := by
  rw [List.range_succ, List.map_append, iDs_app]; rfl
theorem small_len {xs : List Int} (h : xs.length ≤ 1000) : (iDs xs).length < sizeLine := by
  rw [iDs_len]; unfold PySem.sizeLine; omega
theorem s_edges (hG : GOK G) (hN : KOK G N) (hL : ∀ d ∈ L, Nm G d) (hl : L.length ≤ 100) : Ens (m_law_edges [fontD nm G N, .lst L] []) fun d cs => d = .lst (iDs (eds G N L)) := by
  refine ens_def [some (fontD nm G N), some (.lst L), none, none, none] rfl ?_
  unfold b_law_edges
  repeat walk_at "es"
  refine ⟨(by decide : (1 : Nat) ≤ 1000), ?_⟩
  repeat walk_at "es"
  refine ens_len (ds := L) rfl ?_
  repeat walk_at "es"
  refine ⟨by omega, ?_⟩
  refine ens_for0 (fun j sl st => ∃ a, sl = [some (fontD nm G N), some (.lst L), some (.int (ed G N L j)), some (.ptr 0), a] ∧ st = [some (.lst (iDs ((List.range (j + 1)).map (ed G N L))))]) ⟨none, rfl, rfl⟩ (fun j d sl st hd hI => ?_) (fun sl st hI => ?_)
  · obtain ⟨a, rfl, rfl⟩ := hI
    obtain ⟨hj, rfl⟩ := rng_lt hd
    have hj : j < L.length := by omega
    have e1 := List.getElem?_eq_getElem hj
    have n1 := hL _ (List.getElem_mem hj)
    revert e1 n1
    generalize L[j] = g
    intro e1 n1
    have e0 : (0 : Int) + (j : Int) = (j : Int) := by omega
    rw [e0]
    refine ens_red rfl ?_
    repeat walk_at "es"
    refine ens_red rfl ?_
    repeat walk_at "es"
    refine ens_ix (ds := L) rfl (at_nat e1) ?_
    obtain ⟨s, rfl, lk, _⟩ := nm_look n1
    refine ⟨_, congrArg some lk, ?_⟩
    repeat walk_at "es"
    refine ens_red rfl ?_
    refine ens_red rfl ?_
    repeat walk_at "es"
    refine ens_red rfl ?_
    repeat walk_at "es"
    refine ens_len (ds := L) rfl ?_
    have last : ∀ v, v = ed G N L (j + 1) → Ens (gAppend [some (.lst (iDs ((List.range (j + 1)).map (ed G N L))))] (.ptr 0) [.int v]) fun _ st => ∃ a, ([some (fontD nm G N), some (.lst L), some (.int v), some (.ptr 0), some (.int j)] : Sl) = [some (fontD nm G N), some (.lst L), some (.int (ed G N L (j + 1))), some (.ptr 0), a] ∧ st = [some (.lst (iDs ((List.range (j + 1 + 1)).map (ed G N L))))] := fun v ev => by
      subst ev
      refine ens_app rfl (small_len (by rw [List.length_map, List.length_range]; omega)) ⟨_, rfl, ?_⟩
      rw [range_more (ed G N L) (j + 1)]; rfl
    refine ens_red rfl ⟨_, rfl, fun hz => ?_, fun hz => ?_⟩
    · have hz : (j : Int) + 1 < L.length := of_decide_eq_true hz
      have hj2 : j + 1 < L.length := by omega
      have e2 := List.getElem?_eq_getElem hj2
      have n2 := hL _ (List.getElem_mem hj2)
      revert e2 n2
      generalize L[j + 1] = g2
      intro e2 n2
      repeat walk_at "es"
      refine ens_red rfl ?_
      refine ⟨rfl, ?_⟩
      repeat walk_at "es"
      refine ens_ix (ds := L) rfl (at_nat e1) ?_
      repeat walk_at "es"
      refine ens_red rfl ?_
      refine ens_ix (ds := L) (i := (j : Int) + 1) rfl (at_nat (i := j + 1) e2) ?_
      obtain ⟨s2, t2, es1, rfl, lk2, _⟩ := kn_look hN n1 n2
      cases es1
      repeat walk_at "es"
      refine ⟨(by decide : (2 : Nat) ≤ 1000), ?_⟩
      repeat walk_at "es"
      rw [lk2]
      refine ens_red rfl ?_
      repeat walk_at "es"
      refine ⟨rfl, ?_⟩
      repeat walk_at "es"
      exact last _ (by rw [ed, stp_two e1 e2]; omega)
    · have hz : ¬ (j : Int) + 1 < L.length := of_decide_eq_false hz
      repeat walk_at "es"
      refine ⟨rfl, ?_⟩
      repeat walk_at "es"
      exact last _ (by rw [ed, stp_one e1 (List.getElem?_eq_none (by omega))])
  · obtain ⟨a, rfl, rfl⟩ := hI
    have e0 : (rngD 0 (L.length : Int).toNat).length = L.length := by
      unfold rngD
      rw [List.length_map, List.length_range]; omega
    repeat walk_at "es"
    rw [e0]; rfl
theorem r_positions (hG : GOK G) (hN : KOK G N) (hL : ∀ d ∈ L, Nm G d) (hl : L.length ≤ 100) : Ens (m_positions [fontD nm G N, .lst L] []) fun d cs => d = .lst (iDs (eds G N L)) := by
  refine ens_def [some (fontD nm G N), some (.lst L), none, none, none, none, none, none] rfl ?_
  unfold b_positions
  repeat walk_at "es"
  refine ens_red rfl ?_
  repeat walk_at "es"
  refine ens_red rfl ?_
  repeat walk_at "es"
  refine ⟨_, _, rfl, ?_⟩
  repeat walk_at "es"
  refine ⟨by decide, ?_⟩
  repeat walk_at "es"
  refine ens_for0 (fun j sl st => ∃ a b, sl = [some (fontD nm G N), some (.lst L), some (.dct G), some (.dcT N), some (.ptr 0), some (.int (pe G N L j)), a, b] ∧ st = [some (.lst (iDs ((List.range j).map (ed G N L))))]) ⟨none, none, rfl, rfl⟩ (fun j d sl st hd hI => ?_) (fun sl st hI => ?_)
  · obtain ⟨a, b, rfl, rfl⟩ := hI
    have hj : j < L.length := by
      have := idx_lt hd
      unfold enumD at this
      rw [List.length_map, List.length_zipIdx] at this
      exact this
    have e1 := List.getElem?_eq_getElem hj
    have n1 := hL _ (List.getElem_mem hj)
    have ed1 : d = .tup [.int (j : Int), L[j]] := by
      unfold enumD at hd
      rw [List.getElem?_map, List.getElem?_zipIdx, e1] at hd
      simp only [Option.map_some, Option.some.injEq, Nat.zero_add] at hd
      exact hd.symm
    subst ed1
    clear hd
    revert e1 n1
    generalize L[j] = g
    intro e1 n1
    refine ens_red rfl ?_
    repeat walk_at "es"
    have last : ∀ v, v = ed G N L j → EnsS ((sSeq (sDrop (mBM "list" gAppend (mVar 4) (mCons (mVar 5) mNil))) (sAug 5 (mBin gIx (mDGet (mVar 2) (mVar 7)) (mC (.int 0))) (gI0 fun i j => .int (i + j)))) [some (fontD nm G N), some (.lst L), some (.dct G), some (.dcT N), some (.ptr 0), some (.int v), some (.int j), some g] [some (.lst (iDs ((List.range j).map (ed G N L))))]) (fun sl st => ∃ a b, sl = [some (fontD nm G N), some (.lst L), some (.dct G), some (.dcT N), some (.ptr 0), some (.int (pe G N L (j + 1))), a, b] ∧ st = [some (.lst (iDs ((List.range (j + 1)).map (ed G N L))))]) fun d cs => d = .lst (iDs (eds G N L)) := fun v ev => by
      subst ev
      repeat walk_at "es"
      refine ⟨rfl, ?_⟩
      repeat walk_at "es"
      refine ens_app rfl (small_len (by rw [List.length_map, List.length_range]; omega)) ?_
      repeat walk_at "es"
      obtain ⟨s, rfl, lk, _⟩ := nm_look n1
      refine ⟨_, congrArg some lk, ?_⟩
      repeat walk_at "es"
      refine ens_red rfl ?_
      refine ens_red rfl ⟨some (.int (j : Int)), some (.str s), ?_, ?_⟩
      · rw [pe_succ e1]; rfl
      · rw [range_more]; rfl
    refine ens_red rfl ⟨_, rfl, fun hz => ?_, fun hz => ?_⟩
    · have hz : (0 : Int) < (j : Int) := of_decide_eq_true hz
      cases j with
      | zero => cases hz
      | succ i =>
        have hi : i < L.length := by omega
        have e2 := List.getElem?_eq_getElem hi
        have n2 := hL _ (List.getElem_mem hi)
        revert e2 n2
        generalize L[i] = g2
        intro e2 n2
        repeat walk_at "es"
        refine ⟨rfl, ?_⟩
        repeat walk_at "es"
        refine ens_red rfl ?_
        refine ens_ix (ds := L) (i := ((i + 1 : Nat) : Int) - 1) rfl (by
          have : ((i + 1 : Nat) : Int) - 1 = (i : Int) := by omega
          rw [this]
          exact at_nat e2) ?_
        obtain ⟨s2, t2, rfl, rfl, lk2, _⟩ := kn_look hN n2 n1
        repeat walk_at "es"
        refine ⟨(by decide : (2 : Nat) ≤ 1000), ?_⟩
        repeat walk_at "es"
        rw [lk2]
        refine ens_red rfl ?_
        exact last _ (by rw [pe_succ e2, ed, stp_two e2 e1]; omega)
    · have hz : ¬ (0 : Int) < (j : Int) := of_decide_eq_false hz
      cases j with
      | zero => exact ens_next (last _ rfl)
      | succ i => omega
  · obtain ⟨a, b, rfl, rfl⟩ := hI
    have e0 : (enumD L).length = L.length := by
      unfold enumD
      rw [List.length_map, List.length_zipIdx]
    repeat walk_at "es"
    rw [e0, pe_end]
    refine ⟨rfl, ?_⟩
    repeat walk_at "es"
    refine ens_app rfl (small_len (by rw [List.length_map, List.length_range]; omega)) ?_
    repeat walk_at "es"
    unfold eds
    rw [range_more]

variable {nm : Str} {G : List (Key × D)} {N : List (List Key × D)} {L : List D} {st : Sto}
theorem two_pf (hG : GOK G) (hN : KOK G N) (hL : ∀ d ∈ L, Nm G d) : pfs [fontD nm G N, .lst L] = true := by
  rw [pfs, font_pf hG hN, pfs, pf, nms_pf hL]; rfl
theorem r_edgesB (hG : GOK G) (hN : KOK G N) (hL : ∀ d ∈ L, Nm G d) (hl : L.length ≤ 100) {Q : D → Sto → Prop} (q : Q (.lst (iDs (eds G N L))) st) : Ens (callB 2 m_law_edges [fontD nm G N, .lst L] st) Q :=
  ens_B0 rfl rfl (two_pf hG hN hL) ((s_edges hG hN hL hl).imp fun d cs e => by subst e; exact ⟨by rw [pf]; exact pfs_iDs _, q⟩)
theorem r_positionsB (hG : GOK G) (hN : KOK G N) (hL : ∀ d ∈ L, Nm G d) (hl : L.length ≤ 100) {Q : D → Sto → Prop} (q : Q (.lst (iDs (eds G N L))) st) : Ens (callB 2 m_positions [fontD nm G N, .lst L] st) Q :=
  ens_B0 rfl rfl (two_pf hG hN hL) ((r_positions hG hN hL hl).imp fun d cs e => by subst e; exact ⟨by rw [pf]; exact pfs_iDs _, q⟩)
theorem eds_last : atI (iDs (eds G N L)) (-1 : Int) = some (.int (ed G N L L.length)) := by
  refine at_last ?_
  rw [iDs_len, eds_len, Nat.add_sub_cancel, iDs_get, eds_at (Nat.le_refl _)]; rfl
theorem r_width (hG : GOK G) (hN : KOK G N) (hL : ∀ d ∈ L, Nm G d) (hl : L.length ≤ 100) : Ens (m_width [fontD nm G N, .lst L] []) fun d cs => d = .int (ed G N L L.length) := by
  refine ens_def [some (fontD nm G N), some (.lst L)] rfl ?_
  unfold b_width
  repeat walk_at "es"
  refine r_positionsB hG hN hL hl ?_
  repeat walk_at "es"
  refine ens_red rfl ?_
  exact ens_ix rfl eds_last rfl
theorem r_widthB (hG : GOK G) (hN : KOK G N) (hL : ∀ d ∈ L, Nm G d) (hl : L.length ≤ 100) {Q : D → Sto → Prop} (q : Q (.int (ed G N L L.length)) st) : Ens (callB 2 m_width [fontD nm G N, .lst L] st) Q :=
  ens_B0 rfl rfl (two_pf hG hN hL) ((r_width hG hN hL hl).imp fun d cs e => by subst e; exact ⟨rfl, q⟩)
theorem to_eq {τ : Type} {m : MM τ} {x : τ} {st : Sto} (h : Ens m fun y s => y = x ∧ s = st) : m = ret x st := by
  obtain ⟨y, s, e, rfl, rfl⟩ := h
  exact e
theorem max0 {xs : List Int} (h : ∀ x ∈ xs, 0 ≤ x) : maxOf (0 :: xs) = if xs = [] then 0 else maxOf xs := by
  cases xs with
  | nil => rfl
  | cons a r =>
    rw [if_neg (List.cons_ne_nil _ _)]
    show max 0 (maxOf (a :: r)) = _
    have := h _ (maxOf_mem (List.cons_ne_nil a r)).1
    omega
theorem if_int {c : Prop} [Decidable c] {a b : Int} : (if c then D.int a else D.int b) = D.int (if c then a else b) := by
  by_cases z : c
  · rw [if_pos z, if_pos z]
  · rw [if_neg z, if_neg z]
theorem map_iDs (f : D → Int) (L : List D) : L.map (fun d => D.int (f d)) = iDs (L.map f) := by
  unfold iDs; rw [List.map_map]; rfl
theorem ht_nn (hL : ∀ d ∈ L, Nm G d) : ∀ x ∈ L.map (ht G), 0 ≤ x := fun x m => by
  rw [List.mem_map] at m
  obtain ⟨d, m, rfl⟩ := m
  obtain ⟨_, _, _, _, h, _⟩ := nm_look (hL d m)
  exact h
theorem dp_nn (hL : ∀ d ∈ L, Nm G d) : ∀ x ∈ L.map (dp G), 0 ≤ x := fun x m => by
  rw [List.mem_map] at m
  obtain ⟨d, m, rfl⟩ := m
  obtain ⟨_, _, _, _, _, h⟩ := nm_look (hL d m)
  exact h
theorem r_extents (hG : GOK G) (hN : KOK G N) (hL : ∀ d ∈ L, Nm G d) (hl : L.length ≤ 100) : Ens (m_extents [fontD nm G N, .lst L] []) fun d cs => d = .tup [.int (maxOf (0 :: L.map (ht G))), .int (maxOf (0 :: L.map (dp G)))] := by
  refine ens_def [some (fontD nm G N), some (.lst L), none, none, none, none] rfl ?_
  unfold b_extents
  repeat walk_at "es"
  refine ens_red rfl ?_
  repeat walk_at "es"
  refine ⟨L, .inl rfl, ?_⟩
  refine ens_lcY (fun d => .int (ht G d)) L [] (by unfold PySem.sizeLine; show 0 + L.length ≤ _; omega) (fun d m => to_eq ?_) ?_
  · obtain ⟨s, rfl, lk, _⟩ := nm_look (hL d m)
    repeat walk_at "es"
    refine ⟨_, congrArg some lk, ?_⟩
    repeat walk_at "es"
    exact ens_red rfl ⟨rfl, rfl⟩
  repeat walk_at "es"
  refine ⟨L.map (ht G), by rw [← map_iDs]; rfl, ?_⟩
  rw [if_int, ← max0 (ht_nn hL)]
  repeat walk_at "es"
  refine ⟨L, .inl rfl, ?_⟩
  refine ens_lcY (fun d => .int (dp G d)) L [] (by unfold PySem.sizeLine; show 0 + L.length ≤ _; omega) (fun d m => to_eq ?_) ?_
  · obtain ⟨s, rfl, lk, _⟩ := nm_look (hL d m)
    repeat walk_at "es"
    refine ⟨_, congrArg some lk, ?_⟩
    repeat walk_at "es"
    exact ens_red rfl ⟨rfl, rfl⟩
  repeat walk_at "es"
  refine ⟨L.map (dp G), by rw [← map_iDs]; rfl, ?_⟩
  rw [if_int, ← max0 (dp_nn hL)]
  repeat walk_at "es"
  exact ⟨(by decide : (2 : Nat) ≤ 1000), rfl⟩
theorem r_extentsB (hG : GOK G) (hN : KOK G N) (hL : ∀ d ∈ L, Nm G d) (hl : L.length ≤ 100) {Q : D → Sto → Prop} (q : Q (.tup [.int (maxOf (0 :: L.map (ht G))), .int (maxOf (0 :: L.map (dp G)))]) st) : Ens (callB 2 m_extents [fontD nm G N, .lst L] st) Q :=
  ens_B0 rfl rfl (two_pf hG hN hL) ((r_extents hG hN hL hl).imp fun d cs e => by subst e; exact ⟨rfl, q⟩)
/-! ### alike -/
theorem same_int (n : Nat) (i : Int) {Q : D → Sto → Prop} (q : Q (.bl true) st) : Ens (callB 2 (m_law_same (n + 1)) [.int i, .int i] st) Q := by
  refine ens_B0 rfl rfl rfl ?_
  show Ens (mDef 3 2 (b_law_same (m_law_same n)) [.int i, .int i] []) _
  refine ens_def [some (.int i), some (.int i), none] rfl ?_
  unfold b_law_same
  repeat walk_at "es"
  refine ens_red rfl ⟨_, rfl, fun z => (by cases z), fun _ => ?_⟩
  repeat walk_at "es"
  refine ens_red rfl ⟨_, rfl, fun z => (by cases z), fun _ => ?_⟩
  repeat walk_at "es"
  refine ens_red rfl ⟨_, rfl, fun _ => ?_, fun z => (by cases z)⟩
  repeat walk_at "es"
  refine ens_red rfl ⟨_, rfl, fun _ => ?_, fun z => (by cases z)⟩
  repeat walk_at "es"
  refine ens_red rfl ?_
  repeat walk_at "es"
  refine ⟨fun _ => ?_, fun z => (by cases z)⟩
  repeat walk_at "es"
  refine ens_eqI ⟨rfl, ?_⟩
  rw [decide_eq_true rfl]; exact q
theorem loop_same {d : D} {ds : List D} {n : Nat} {a : Option D} {N : Sl → Sto → Prop} {R : D → Sto → Prop} (hd : d = .lst ds ∨ d = .tup ds) (hi : ∀ x ∈ ds, ∃ i, x = D.int i) (q : ∀ a, N [some d, some d, a] st) :
    EnsS (forL (gNm 2) (sIf (mNot (mTru (mCall (callB 2 (m_law_same (n + 1))) (mCons (mBin gIx (mVar 0) (mVar 2)) (mCons (mBin gIx (mVar 1) (mVar 2)) mNil))))) (sRet (mC (.bl false))) sNext) (rngD 0 ds.length) [some d, some d, a] st) N R := by
  refine ens_for0 (fun j sl s => s = st ∧ ∃ a, sl = [some d, some d, a]) ⟨rfl, a, rfl⟩ (fun j x sl s hx hI => ?_) (fun sl s hI => ?_)
  · obtain ⟨rfl, a, rfl⟩ := hI
    obtain ⟨hj, rfl⟩ := rng_lt hx
    have e0 : (0 : Int) + (j : Int) = (j : Int) := by omega
    rw [e0]
    obtain ⟨i, e⟩ := hi _ (List.getElem_mem hj)
    have e1 : atI ds (j : Int) = some (.int i) := at_nat (by rw [List.getElem?_eq_getElem hj, e])
    have ix : ∀ {Q : D → Sto → Prop}, Q (.int i) s → Ens (gIx s d (.int (j : Int))) Q := fun qq => by
      rcases hd with rfl | rfl
      · exact ens_ix rfl e1 qq
      · exact ens_ixT e1 qq
    refine ens_red rfl ?_
    repeat walk_at "es"
    refine ix ?_
    repeat walk_at "es"
    refine ix ?_
    repeat walk_at "es"
    refine same_int n i ?_
    repeat walk_at "es"
    refine ⟨fun z => (by cases z), fun _ => ?_⟩
    repeat walk_at "es"
    exact ⟨rfl, _, rfl⟩
  · obtain ⟨rfl, a, rfl⟩ := hI
    exact q a
theorem same_L (n : Nat) {ds : List D} (hi : ∀ x ∈ ds, ∃ i, x = D.int i) (hp : pfs ds = true) (hl : ds.length ≤ 1000) {Q : D → Sto → Prop} (q : Q (.bl true) st) : Ens (callB 2 (m_law_same (n + 2)) [.lst ds, .lst ds] st) Q := by
  refine ens_B0 rfl rfl (by rw [pfs, pfs, pf, hp]; rfl) ?_
  show Ens (mDef 3 2 (b_law_same (m_law_same (n + 1))) [.lst ds, .lst ds] []) _
  refine ens_def [some (.lst ds), some (.lst ds), none] rfl ?_
  unfold b_law_same
  repeat walk_at "es"
  refine ens_red rfl ⟨_, rfl, fun z => (by cases z), fun _ => ?_⟩
  repeat walk_at "es"
  refine ens_red rfl ⟨_, rfl, fun z => (by cases z), fun _ => ?_⟩
  repeat walk_at "es"
  refine ens_red rfl ⟨_, rfl, fun z => (by cases z), fun _ => ?_⟩
  repeat walk_at "es"
  refine ens_red rfl ⟨_, rfl, fun z => (by cases z), fun _ => ?_⟩
  repeat walk_at "es"
  refine ens_red rfl ⟨_, rfl, fun _ => ?_, fun z => (by cases z)⟩
  repeat walk_at "es"
  refine ens_red rfl ⟨_, rfl, fun z => (by cases z), fun _ => ?_⟩
  repeat walk_at "es"
  refine ens_red rfl ⟨_, rfl, fun z => (by cases z), fun _ => ⟨fun z => (by cases z), fun _ => ?_⟩⟩
  repeat walk_at "es"
  refine ens_len (ds := ds) rfl ?_
  repeat walk_at "es"
  refine ens_len (ds := ds) rfl ?_
  refine ens_neI ⟨_, rfl, fun z => ?_, fun _ => ?_⟩
  · rw [decide_eq_true rfl] at z; cases z
  repeat walk_at "es"
  refine ens_len (ds := ds) rfl ?_
  repeat walk_at "es"
  refine ⟨by omega, ?_⟩
  refine loop_same (.inl rfl) hi fun a => ?_
  repeat walk_at "es"
  exact ⟨rfl, q⟩
theorem same_T (n : Nat) {ds : List D} (hi : ∀ x ∈ ds, ∃ i, x = D.int i) (hp : pfs ds = true) (hl : ds.length ≤ 1000) {Q : D → Sto → Prop} (q : Q (.bl true) st) : Ens (callB 2 (m_law_same (n + 2)) [.tup ds, .tup ds] st) Q := by
  refine ens_B0 rfl rfl (by rw [pfs, pfs, pf, hp]; rfl) ?_
  show Ens (mDef 3 2 (b_law_same (m_law_same (n + 1))) [.tup ds, .tup ds] []) _
  refine ens_def [some (.tup ds), some (.tup ds), none] rfl ?_
  unfold b_law_same
  repeat walk_at "es"
  refine ens_red rfl ⟨_, rfl, fun z => (by cases z), fun _ => ?_⟩
  repeat walk_at "es"
  refine ens_red rfl ⟨_, rfl, fun z => (by cases z), fun _ => ?_⟩
  repeat walk_at "es"
  refine ens_red rfl ⟨_, rfl, fun z => (by cases z), fun _ => ?_⟩
  repeat walk_at "es"
  refine ens_red rfl ⟨_, rfl, fun z => (by cases z), fun _ => ?_⟩
  repeat walk_at "es"
  refine ens_red rfl ⟨_, rfl, fun z => (by cases z), fun _ => ⟨fun z => (by cases z), fun _ => ?_⟩⟩
  repeat walk_at "es"
  refine ens_red rfl ⟨_, rfl, fun _ => ?_, fun z => (by cases z)⟩
  repeat walk_at "es"
  refine ens_red rfl ⟨_, rfl, fun z => (by cases z), fun _ => ?_⟩
  repeat walk_at "es"
  refine ens_red (x := .int ds.length) rfl ?_
  repeat walk_at "es"
  refine ens_red (x := .int ds.length) rfl ?_
  refine ens_neI ⟨_, rfl, fun z => ?_, fun _ => ?_⟩
  · rw [decide_eq_true rfl] at z; cases z
  repeat walk_at "es"
  refine ens_red (x := .int ds.length) rfl ?_
  repeat walk_at "es"
  refine ⟨by omega, ?_⟩
  refine loop_same (.inr rfl) hi fun a => ?_
  repeat walk_at "es"
  exact ⟨rfl, q⟩

variable {nm : Str} {G : List (Key × D)} {N : List (List Key × D)} {st : Sto}
/-- what stands between two rows -/
def btw (N : List (List Key × D)) (A B : List D) : Int := match A[A.length - 1]?, B[0]? with
  | some x, some y => kn N x y
  | _, _ => 0
theorem stp_cons (g : D) (r : List D) (i : Nat) : stp G N (g :: r) (i + 1) = stp G N r i := rfl
theorem ed_cons (g : D) (r : List D) : ∀ i, ed G N (g :: r) (i + 1) = stp G N (g :: r) 0 + ed G N r i
  | 0 => by simp only [ed]; omega
  | i + 1 => by
    rw [ed, ed_cons g r i, ed, stp_cons]; omega
theorem ed_app : ∀ A B : List D, ed G N (A ++ B) (A ++ B).length = ed G N A A.length + btw N A B + ed G N B B.length
  | [], B => by
    have : btw N [] B = 0 := rfl
    rw [this]
    show ed G N B B.length = 0 + 0 + _
    omega
  | [g], B => by
    show ed G N (g :: B) (B.length + 1) = ed G N (g :: []) (0 + 1) + _ + _
    rw [ed_cons, ed_cons]
    show _ = stp G N [g] 0 + 0 + _ + _
    cases B with
    | nil =>
      have : btw N [g] [] = 0 := rfl
      rw [this]; omega
    | cons h r =>
      have e1 : btw N [g] (h :: r) = kn N g h := rfl
      have e2 : stp G N (g :: h :: r) 0 = wd G g + kn N g h := rfl
      have e3 : stp G N [g] 0 = wd G g := rfl
      rw [e1, e2, e3]; omega
  | g :: h :: r, B => by
    have ih := ed_app (h :: r) B
    show ed G N (g :: (h :: r ++ B)) ((h :: r ++ B).length + 1) = ed G N (g :: h :: r) ((h :: r).length + 1) + _ + _
    rw [ed_cons, ed_cons, ih]
    have e1 : btw N (g :: h :: r) B = btw N (h :: r) B := by
      unfold btw
      have : (g :: h :: r)[(g :: h :: r).length - 1]? = (h :: r)[(h :: r).length - 1]? := rfl
      rw [this]
    have e2 : stp G N (g :: (h :: r ++ B)) 0 = stp G N (g :: h :: r) 0 := rfl
    rw [e1, e2]; omega
theorem py_strs {L : List D} (h : ∀ d ∈ L, ∃ s, d = D.str s ∧ PyData.strOk s = true) : ∃ xs, pys L = some xs ∧ PyData.canLayAll0 xs = true ∧ PyData.depthAll xs = 0 := by
  induction L with
  | nil => exact ⟨[], by rw [pys], by rw [PyData.canLayAll0], by rw [PyData.depthAll]⟩
  | cons d r ih =>
    obtain ⟨xs, e, h1, h2⟩ := ih fun x m => h x (List.mem_cons_of_mem _ m)
    obtain ⟨s, rfl, o⟩ := h d List.mem_cons_self
    refine ⟨.str s :: xs, by rw [pys, py, e], ?_, ?_⟩
    · rw [PyData.canLayAll0, PyData.canLay0, o, h1]; rfl
    · rw [PyData.depthAll, h2, PyData.depth.eq_7]; rfl
theorem math (ns : List Int) (hns : ns.length ≤ 63) : ∃ st, m_law [.scr ns] [] = some (.ok (.bl true) st) := by
  suffices h : Ens (m_law [.scr ns] []) fun d st => d = .bl true by
    obtain ⟨d, st, e, rfl⟩ := h
    exact ⟨st, e⟩
  refine ens_def [some (.scr ns), none, none, none, none, none, none, none, none, none, none, none, none] rfl ?_
  unfold b_law
  repeat walk_at "es"
  refine ens_B0c rfl rfl rfl ((s_numbers ns hns).imp fun d cs ⟨j, xs, e1, e2⟩ => ⟨j, _, e1, e2, pfs_iDs xs, ?_⟩)
  repeat walk_at "es"
  refine s_fontB "plain" xs fun G N ys hG hN hne => ?_
  repeat walk_at "es"
  refine s_glyphsB hG hN hne ys fun L1 xs hL1 hl1 => ?_
  repeat walk_at "es"
  refine s_glyphsB hG hN hne xs fun L2 ys hL2 hl2 => ?_
  repeat walk_at "es"
  refine ens_red rfl ?_
  repeat walk_at "es"
  refine ens_red rfl ?_
  repeat walk_at "es"
  refine ⟨(by decide : (2 : Nat) ≤ 1000), ?_⟩
  have hL3 : ∀ d ∈ L1 ++ L2, Nm G d := fun d m => (List.mem_append.mp m).elim (hL1 d) (hL2 d)
  have hl3 : (L1 ++ L2).length ≤ 58 := by rw [List.length_append]; omega
  repeat walk_at "es"
  refine ens_addL rfl rfl (by unfold PySem.sizeLine; omega) ?_
  refine ens_red rfl ?_
  repeat walk_at "es"
  refine ⟨by decide, ?_⟩
  repeat walk_at "es"
  refine ⟨(by decide : (4 : Nat) ≤ 1000), ?_⟩
  refine ⟨_, .inl rfl, ?_⟩
  refine ens_for0 (fun j sl st => st = [some (.lst (iDs ys))] ∧ ∃ a b c d e f, sl = [some (.scr ns), some (.ptr 0), some (fontD "plain" G N), some (.lst L1), some (.lst L2), some (.lst [.lst L1, .lst L2]), a, b, c, d, e, f, none]) ⟨rfl, _, _, _, _, _, _, rfl⟩ (fun j d sl st hd hI => ?_) (fun sl st hI => ?_)
  · obtain ⟨rfl, a, b, c, p, q, r, rfl⟩ := hI
    have hL : ∃ L, d = .lst L ∧ (∀ d ∈ L, Nm G d) ∧ L.length ≤ 58 := by
      have m := List.mem_of_getElem? hd
      simp only [List.mem_cons, List.not_mem_nil, or_false] at m
      rcases m with rfl | rfl | rfl | rfl
      · exact ⟨_, rfl, hL1, by omega⟩
      · exact ⟨_, rfl, hL2, by omega⟩
      · exact ⟨_, rfl, hL3, hl3⟩
      · exact ⟨_, rfl, fun _ m => (by cases m), by decide⟩
    obtain ⟨L, rfl, hL, hl⟩ := hL
    clear hd
    have hl : L.length ≤ 100 := by omega
    have allI : ∀ xs : List Int, ∀ x ∈ iDs xs, ∃ i, x = D.int i := fun xs x m => by
      unfold iDs at m
      rw [List.mem_map] at m
      obtain ⟨i, _, rfl⟩ := m
      exact ⟨i, rfl⟩
    refine ens_red rfl ?_
    repeat walk_at "es"
    refine r_edgesB hG hN hL hl ?_
    repeat walk_at "es"
    refine r_positionsB hG hN hL hl ?_
    repeat walk_at "es"
    refine same_L 2 (allI _) (pfs_iDs _) (by rw [iDs_len, eds_len]; omega) ?_
    repeat walk_at "es"
    refine ⟨fun z => (by cases z), fun _ => ?_⟩
    repeat walk_at "es"
    refine r_widthB hG hN hL hl ?_
    repeat walk_at "es"
    refine ens_red rfl ?_
    refine ens_ix rfl eds_last ?_
    repeat walk_at "es"
    refine same_int 3 _ ?_
    repeat walk_at "es"
    refine ⟨fun z => (by cases z), fun _ => ?_⟩
    repeat walk_at "es"
    refine ens_len (ds := L) rfl ?_
    repeat walk_at "es"
    refine ⟨by omega, ?_⟩
    refine ens_for0 (fun j sl st => st = [some (.lst (iDs ys))] ∧ ∃ c, sl = [some (.scr ns), some (.ptr 0), some (fontD "plain" G N), some (.lst L1), some (.lst L2), some (.lst [.lst L1, .lst L2]), some (.lst L), some (.lst (iDs (eds G N L))), c, p, q, r, none]) ⟨rfl, _, rfl⟩ (fun j d sl st hd hI => ?_) (fun sl st hI => ?_)
    · obtain ⟨rfl, c, rfl⟩ := hI
      obtain ⟨hj, rfl⟩ := rng_lt hd
      have hj : j < L.length := by omega
      have e0 : (0 : Int) + (j : Int) = (j : Int) := by omega
      rw [e0]
      refine ens_red rfl ?_
      repeat walk_at "es"
      refine ens_ix rfl (at_nat (by rw [iDs_get, eds_at (Nat.le_of_lt hj)]; rfl)) ?_
      repeat walk_at "es"
      refine ens_red rfl ?_
      refine ens_ix (i := (j : Int) + 1) rfl (at_nat (i := j + 1) (by rw [iDs_get, eds_at hj]; rfl)) ?_
      have lt := decide_eq_true (ed_up hN hL hj)
      refine ens_red (x := .bl true) (st := [some (.lst (iDs ys))]) (by
        show ret (D.bl (decide (ed G N L j < ed G N L (j + 1)))) [some (.lst (iDs ys))] = _
        rw [lt]) ⟨_, rfl, ⟨fun z => (by cases z), fun _ => ?_⟩⟩
      repeat walk_at "es"
      exact ⟨rfl, _, rfl⟩
    · obtain ⟨rfl, c, rfl⟩ := hI
      repeat walk_at "es"
      refine ⟨(by decide : (1 : Nat) ≤ 1000), ?_⟩
      repeat walk_at "es"
      refine ⟨L, .inl rfl, ?_⟩
      refine ens_lcY (fun d => .int (ht G d)) L [] (by unfold PySem.sizeLine; show 0 + L.length ≤ _; omega) (fun d m => to_eq ?_) ?_
      · obtain ⟨s, rfl, lk, _⟩ := nm_look (hL d m)
        repeat walk_at "es"
        refine ens_red rfl ?_
        repeat walk_at "es"
        refine ⟨_, congrArg some lk, ?_⟩
        repeat walk_at "es"
        exact ens_red rfl ⟨rfl, rfl⟩
      refine ens_addL rfl rfl (by unfold PySem.sizeLine; rw [List.nil_append, List.length_map]; show 1 + L.length ≤ _; omega) ?_
      refine ens_red rfl ?_
      repeat walk_at "es"
      refine ens_maxL (is := 0 :: L.map (ht G)) (by rw [List.nil_append, map_iDs]; rfl) (List.cons_ne_nil _ _) ?_
      repeat walk_at "es"
      refine ⟨(by decide : (1 : Nat) ≤ 1000), ?_⟩
      repeat walk_at "es"
      refine ⟨L, .inl rfl, ?_⟩
      refine ens_lcY (fun d => .int (dp G d)) L [] (by unfold PySem.sizeLine; show 0 + L.length ≤ _; omega) (fun d m => to_eq ?_) ?_
      · obtain ⟨s, rfl, lk, _⟩ := nm_look (hL d m)
        repeat walk_at "es"
        refine ens_red rfl ?_
        repeat walk_at "es"
        refine ⟨_, congrArg some lk, ?_⟩
        repeat walk_at "es"
        exact ens_red rfl ⟨rfl, rfl⟩
      refine ens_addL rfl rfl (by unfold PySem.sizeLine; rw [List.nil_append, List.length_map]; show 1 + L.length ≤ _; omega) ?_
      refine ens_red rfl ?_
      repeat walk_at "es"
      refine ens_maxL (is := 0 :: L.map (dp G)) (by rw [List.nil_append, map_iDs]; rfl) (List.cons_ne_nil _ _) ?_
      repeat walk_at "es"
      refine r_extentsB hG hN hL hl ?_
      repeat walk_at "es"
      refine ⟨(by decide : (2 : Nat) ≤ 1000), ?_⟩
      repeat walk_at "es"
      refine same_T 2 (fun x m => ?_) rfl (by show 2 ≤ 1000; decide) ?_
      · rcases List.mem_cons.mp m with rfl | m
        · exact ⟨_, rfl⟩
        · rw [List.mem_singleton] at m
          exact ⟨_, m⟩
      repeat walk_at "es"
      refine ⟨fun z => (by cases z), fun _ => ?_⟩
      repeat walk_at "es"
      exact ⟨rfl, _, _, _, _, _, _, rfl⟩
  · obtain ⟨rfl, a, b, c, p, q, r, rfl⟩ := hI
    have fin : ∀ v, v = btw N L1 L2 → EnsS (sSeq (sIf (mB (mBin gNe (mCall (callB 2 m_width) (mCons (mVar 2) (mCons (mBin (gAdd false) (mVar 3) (mVar 4)) mNil))) (mBin (gAdd false) (mBin (gAdd false) (mCall (callB 2 m_width) (mCons (mVar 2) (mCons (mVar 3) mNil))) (mVar 12)) (mCall (callB 2 m_width) (mCons (mVar 2) (mCons (mVar 4) mNil)))))) (sRet (mC (.bl false))) sNext) (sRet (mBin (gEqD false) (mVar 5) (mLst false (mCons (mVar 3) (mCons (mVar 4) mNil))))) [some (.scr ns), some (.ptr 0), some (fontD "plain" G N), some (.lst L1), some (.lst L2), some (.lst [.lst L1, .lst L2]), a, b, c, p, q, r, some (.int v)] [some (.lst (iDs ys))]) (fun _ _ => D.non = .bl true) fun d _ => d = .bl true := fun v ev => by
      repeat walk_at "es"
      refine ens_addL rfl rfl (by unfold PySem.sizeLine; omega) ?_
      refine ens_red rfl ?_
      repeat walk_at "es"
      refine r_widthB hG hN hL3 (by omega) ?_
      repeat walk_at "es"
      refine r_widthB hG hN hL1 (by omega) ?_
      repeat walk_at "es"
      refine ens_red rfl ?_
      repeat walk_at "es"
      refine r_widthB hG hN hL2 (by omega) ?_
      refine ens_red rfl ?_
      refine ens_neI ⟨_, rfl, fun z => ?_, fun _ => ?_⟩
      · have e := ed_app (G := G) (N := N) L1 L2
        rw [← ev] at e
        rw [e, decide_eq_true rfl] at z
        cases z
      · repeat walk_at "es"
        refine ⟨(by decide : (2 : Nat) ≤ 1000), ?_⟩
        have ok : ∀ L, (∀ d ∈ L, Nm G d) → ∃ xs, pys L = some xs ∧ PyData.canLayAll0 xs = true ∧ PyData.depthAll xs = 0 := fun L hL => py_strs fun d m => by
          obtain ⟨s, rfl, _⟩ := nm_look (hL d m)
          exact ⟨s, rfl, nm_ok hG (hL _ m)⟩
        obtain ⟨s1, e1, o1, p1⟩ := ok L1 hL1
        obtain ⟨s2, e2, o2, p2⟩ := ok L2 hL2
        have e3 : py (.lst [.lst L1, .lst L2]) = some (.list [.list s1, .list s2]) := by simp only [py, pys, e1, e2, Option.map_some]
        have o3 : (PyData.list [.list s1, .list s2]).canLay0 = true := by simp only [PyData.canLay0, PyData.canLayAll0, o1, o2, Bool.and_self]
        have sh : SeqAt.shaped (.list [.list s1, .list s2]) = true := by
          unfold SeqAt.shaped
          rw [o3]
          simp only [PyData.depth, PyData.depthAll, p1, p2]
          rfl
        refine ens_red (x := .bl true) (st := [some (.lst (iDs ys))]) ?_ rfl
        show (match py (.lst [.lst L1, .lst L2]), py (.lst [.lst L1, .lst L2]) with
          | some a, some b => if SeqAt.shaped a = true ∧ SeqAt.shaped b = true then M.ret (D.bl (PyData.eqv a b)) _ else none
          | _, _ => none) = _
        rw [e3]
        show (if SeqAt.shaped _ = true ∧ SeqAt.shaped _ = true then _ else _) = _
        rw [if_pos ⟨sh, sh⟩, SeqAt.eqv_refl _ o3]
    repeat walk_at "es"
    refine ens_len (ds := L1) rfl ?_
    repeat walk_at "es"
    refine ens_red rfl ⟨_, rfl, fun hz => ?_, fun hz => ⟨fun z => (by cases z), fun _ => ?_⟩⟩
    · have hz : (0 : Int) < L1.length := of_decide_eq_true hz
      repeat walk_at "es"
      refine ens_len (ds := L2) rfl ?_
      repeat walk_at "es"
      refine ens_red rfl ⟨_, rfl, fun hy => ?_, fun hy => ?_⟩
      · have hy : (0 : Int) < L2.length := of_decide_eq_true hy
        have l1 : L1.length - 1 < L1.length := by omega
        have l2 : 0 < L2.length := by omega
        have g1 := List.getElem?_eq_getElem l1
        have g2 := List.getElem?_eq_getElem l2
        have n1 := hL1 _ (List.getElem_mem l1)
        have n2 := hL2 _ (List.getElem_mem l2)
        revert g1 g2 n1 n2
        generalize L1[L1.length - 1] = x1
        generalize L2[0] = x2
        intro g1 g2 n1 n2
        obtain ⟨u, w, rfl, rfl, lk, _⟩ := kn_look hN n1 n2
        repeat walk_at "es"
        refine ens_red rfl ?_
        refine ⟨rfl, ?_⟩
        repeat walk_at "es"
        refine ens_red rfl ?_
        refine ens_ix (ds := L1) rfl (at_last g1) ?_
        repeat walk_at "es"
        refine ens_ix (ds := L2) (i := 0) rfl (at_nat (i := 0) g2) ?_
        repeat walk_at "es"
        refine ⟨(by decide : (2 : Nat) ≤ 1000), ?_⟩
        walk_at "es"
        walk_at "es"
        rw [lk]
        exact fin (kn N (.str u) (.str w)) (by unfold btw; simp only [g1, g2])
      · have hy : ¬ (0 : Int) < L2.length := of_decide_eq_false hy
        refine ens_next (fin _ ?_)
        unfold btw
        have : L2[0]? = none := List.getElem?_eq_none (by omega)
        rw [this]
        cases L1[L1.length - 1]? <;> rfl
    · have hz : ¬ (0 : Int) < L1.length := of_decide_eq_false hz
      refine ens_next (fin _ ?_)
      unfold btw
      have : L1[L1.length - 1]? = none := List.getElem?_eq_none (by omega)
      rw [this]
end G
namespace G
open PySem PySem.Spec L2 M
theorem all_mk {l : PySem.W.OpenLaw} {w : World} {K : PySem.W.Frag} {h : Heap} {mg : Str → Option Value} {fa f0 f1 f2 f3 f4 f5 f6 f7 f8 f9 f10 : Addr} (X : K.In h) (G0 : h.Ns mainGlobals mg) (hfa : mg "law" = some (.ref fa))
    {od0 an0 od1 an1 od2 an2 od3 an3 od4 an4 od5 an5 od6 an6 od7 an7 od8 an8 od9 an9 od10 an10 : Option Addr} {sl0 sl1 sl2 sl3 sl4 sl5 sl6 sl7 sl8 sl9 sl10 : Array (Option Value)} {oc0 kV0 dc0 pm0 cd0 ct0 oc1 kV1 dc1 pm1 cd1 ct1 oc2 kV2 dc2 pm2 cd2 ct2 oc3 kV3 dc3 pm3 cd3 ct3 oc4 kV4 dc4 pm4 cd4 ct4 oc5 kV5 dc5 pm5 cd5 ct5 oc6 kV6 dc6 pm6 cd6 ct6 oc7 kV7 dc7 pm7 cd7 ct7 oc8 kV8 dc8 pm8 cd8 ct8 oc9 kV9 dc9 pm9 cd9 ct9 oc10 kV10 dc10 pm10 cd10 ct10 : Value}
    (a0 : PySem.W.nsIn K mainGlobals "positions" = some (some (.ref f0))) (l0 : K.lookup f0 = some ⟨oc0, od0, .func (PySem.W.fnOf "positions" "positions" (defArgs s_positions) (defBody s_positions) (defScope s_positions) .none kV0 dc0 pm0 an0 cd0 ct0), sl0⟩) (c0 : PySem.W.codeIn K cd0 "positions" = true) (k0 : PySem.W.keepIn K (.ref f0) = true)
    (a1 : PySem.W.nsIn K mainGlobals "width" = some (some (.ref f1))) (l1 : K.lookup f1 = some ⟨oc1, od1, .func (PySem.W.fnOf "width" "width" (defArgs s_width) (defBody s_width) (defScope s_width) .none kV1 dc1 pm1 an1 cd1 ct1), sl1⟩) (c1 : PySem.W.codeIn K cd1 "width" = true) (k1 : PySem.W.keepIn K (.ref f1) = true)
    (a2 : PySem.W.nsIn K mainGlobals "extents" = some (some (.ref f2))) (l2 : K.lookup f2 = some ⟨oc2, od2, .func (PySem.W.fnOf "extents" "extents" (defArgs s_extents) (defBody s_extents) (defScope s_extents) .none kV2 dc2 pm2 an2 cd2 ct2), sl2⟩) (c2 : PySem.W.codeIn K cd2 "extents" = true) (k2 : PySem.W.keepIn K (.ref f2) = true)
    (a3 : PySem.W.nsIn K mainGlobals "_law_numbers" = some (some (.ref f3))) (l3 : K.lookup f3 = some ⟨oc3, od3, .func (PySem.W.fnOf "_law_numbers" "_law_numbers" (defArgs s_law_numbers) (defBody s_law_numbers) (defScope s_law_numbers) .none kV3 dc3 pm3 an3 cd3 ct3), sl3⟩) (c3 : PySem.W.codeIn K cd3 "_law_numbers" = true) (k3 : PySem.W.keepIn K (.ref f3) = true)
    (a4 : PySem.W.nsIn K mainGlobals "_law_pick" = some (some (.ref f4))) (l4 : K.lookup f4 = some ⟨oc4, od4, .func (PySem.W.fnOf "_law_pick" "_law_pick" (defArgs s_law_pick) (defBody s_law_pick) (defScope s_law_pick) .none kV4 dc4 pm4 an4 cd4 ct4), sl4⟩) (c4 : PySem.W.codeIn K cd4 "_law_pick" = true) (k4 : PySem.W.keepIn K (.ref f4) = true)
    (a5 : PySem.W.nsIn K mainGlobals "_law_amount" = some (some (.ref f5))) (l5 : K.lookup f5 = some ⟨oc5, od5, .func (PySem.W.fnOf "_law_amount" "_law_amount" (defArgs s_law_amount) (defBody s_law_amount) (defScope s_law_amount) .none kV5 dc5 pm5 an5 cd5 ct5), sl5⟩) (c5 : PySem.W.codeIn K cd5 "_law_amount" = true) (k5 : PySem.W.keepIn K (.ref f5) = true)
    (a6 : PySem.W.nsIn K mainGlobals "_law_font" = some (some (.ref f6))) (l6 : K.lookup f6 = some ⟨oc6, od6, .func (PySem.W.fnOf "_law_font" "_law_font" (defArgs s_law_font) (defBody s_law_font) (defScope s_law_font) .none kV6 dc6 pm6 an6 cd6 ct6), sl6⟩) (c6 : PySem.W.codeIn K cd6 "_law_font" = true) (k6 : PySem.W.keepIn K (.ref f6) = true)
    (a7 : PySem.W.nsIn K mainGlobals "_law_edges" = some (some (.ref f7))) (l7 : K.lookup f7 = some ⟨oc7, od7, .func (PySem.W.fnOf "_law_edges" "_law_edges" (defArgs s_law_edges) (defBody s_law_edges) (defScope s_law_edges) .none kV7 dc7 pm7 an7 cd7 ct7), sl7⟩) (c7 : PySem.W.codeIn K cd7 "_law_edges" = true) (k7 : PySem.W.keepIn K (.ref f7) = true)
    (a8 : PySem.W.nsIn K mainGlobals "_law_same" = some (some (.ref f8))) (l8 : K.lookup f8 = some ⟨oc8, od8, .func (PySem.W.fnOf "_law_same" "_law_same" (defArgs s_law_same) (defBody s_law_same) (defScope s_law_same) .none kV8 dc8 pm8 an8 cd8 ct8), sl8⟩) (c8 : PySem.W.codeIn K cd8 "_law_same" = true) (k8 : PySem.W.keepIn K (.ref f8) = true)
    (a9 : PySem.W.nsIn K mainGlobals "_law_glyphs" = some (some (.ref f9))) (l9 : K.lookup f9 = some ⟨oc9, od9, .func (PySem.W.fnOf "_law_glyphs" "_law_glyphs" (defArgs s_law_glyphs) (defBody s_law_glyphs) (defScope s_law_glyphs) .none kV9 dc9 pm9 an9 cd9 ct9), sl9⟩) (c9 : PySem.W.codeIn K cd9 "_law_glyphs" = true) (k9 : PySem.W.keepIn K (.ref f9) = true)
    (a10 : PySem.W.nsIn K mainGlobals "law" = some (some (.ref f10))) (l10 : K.lookup f10 = some ⟨oc10, od10, .func (PySem.W.fnOf "law" "law" (defArgs s_law) (defBody s_law) (defScope s_law) .none kV10 dc10 pm10 an10 cd10 ct10), sl10⟩) (c10 : PySem.W.codeIn K cd10 "law" = true) (k10 : PySem.W.keepIn K (.ref f10) = true)
    (z_enumerate : PySem.W.nsIn K mainGlobals "enumerate" = some none)
    (z_max : PySem.W.nsIn K mainGlobals "max" = some none)
    (z_range : PySem.W.nsIn K mainGlobals "range" = some none)
    (z_int : PySem.W.nsIn K mainGlobals "int" = some none)
    (z_len : PySem.W.nsIn K mainGlobals "len" = some none)
    (z_list : PySem.W.nsIn K mainGlobals "list" = some none)
    (z_sorted : PySem.W.nsIn K mainGlobals "sorted" = some none)
    (z_min : PySem.W.nsIn K mainGlobals "min" = some none)
    (z_isinstance : PySem.W.nsIn K mainGlobals "isinstance" = some none)
    (z_bool : PySem.W.nsIn K mainGlobals "bool" = some none)
    (z_str : PySem.W.nsIn K mainGlobals "str" = some none)
    (z_tuple : PySem.W.nsIn K mainGlobals "tuple" = some none) :
    ∃ fd : FuncData, (∀ (s : Shared) (v : Value), BindsTo s fd ⟨[v], []⟩ [("script", v)]) ∧ ∀ base : Heap, K.In base → base.Ns mainGlobals mg → FnOk l.prog w K mg base CX0 5 fa fd ["script"] (spLaw K) := by
  have e := hfa.symm.trans (PySem.W.mg_of X G0 a10)
  cases e
  have T : Tx mg := ⟨PySem.W.mg_none_of X G0 z_enumerate, PySem.W.mg_none_of X G0 z_max, PySem.W.mg_none_of X G0 z_range, PySem.W.mg_none_of X G0 z_int, PySem.W.mg_none_of X G0 z_len, PySem.W.mg_none_of X G0 z_list, PySem.W.mg_none_of X G0 z_sorted, PySem.W.mg_none_of X G0 z_min, PySem.W.mg_none_of X G0 z_isinstance, PySem.W.mg_none_of X G0 z_bool, PySem.W.mg_none_of X G0 z_str, PySem.W.mg_none_of X G0 z_tuple⟩
  refine ⟨PySem.W.fnOf "law" "law" (defArgs s_law) (defBody s_law) (defScope s_law) .none kV10 dc10 pm10 an10 cd10 ct10, fun s v => .of_eq rfl, fun base _ _ => ?_⟩
  have F0 := fun_mk (st := s_positions) l0 c0 k0
  have C0 : Cal l.prog w K mg base 1 "positions" ["font", "glyphs"] m_positions := ⟨_, _, ok_positions F0 T , PySem.W.mg_of X G0 a0, k0, F0.binds (ps := ["font", "glyphs"]) fun _ _ _ _ _ _ us hl => match us, hl with | [_, _], _ => rfl⟩
  have F1 := fun_mk (st := s_width) l1 c1 k1
  have C1 : Cal l.prog w K mg base 2 "width" ["font", "glyphs"] m_width := ⟨_, _, ok_width F1 T C0, PySem.W.mg_of X G0 a1, k1, F1.binds (ps := ["font", "glyphs"]) fun _ _ _ _ _ _ us hl => match us, hl with | [_, _], _ => rfl⟩
  have F2 := fun_mk (st := s_extents) l2 c2 k2
  have C2 : Cal l.prog w K mg base 1 "extents" ["font", "glyphs"] m_extents := ⟨_, _, ok_extents F2 T , PySem.W.mg_of X G0 a2, k2, F2.binds (ps := ["font", "glyphs"]) fun _ _ _ _ _ _ us hl => match us, hl with | [_, _], _ => rfl⟩
  have F3 := fun_mk (st := s_law_numbers) l3 c3 k3
  have C3 : Cal l.prog w K mg base 1 "_law_numbers" ["script"] m_law_numbers := ⟨_, _, ok_law_numbers F3 T , PySem.W.mg_of X G0 a3, k3, F3.binds (ps := ["script"]) fun _ _ _ _ _ _ us hl => match us, hl with | [_], _ => rfl⟩
  have F4 := fun_mk (st := s_law_pick) l4 c4 k4
  have C4 : Cal l.prog w K mg base 1 "_law_pick" ["feed", "many"] m_law_pick := ⟨_, _, ok_law_pick F4 T , PySem.W.mg_of X G0 a4, k4, F4.binds (ps := ["feed", "many"]) fun _ _ _ _ _ _ us hl => match us, hl with | [_, _], _ => rfl⟩
  have F5 := fun_mk (st := s_law_amount) l5 c5 k5
  have C5 : Cal l.prog w K mg base 2 "_law_amount" ["feed", "most"] m_law_amount := ⟨_, _, ok_law_amount F5 T C4, PySem.W.mg_of X G0 a5, k5, F5.binds (ps := ["feed", "most"]) fun _ _ _ _ _ _ us hl => match us, hl with | [_, _], _ => rfl⟩
  have F6 := fun_mk (st := s_law_font) l6 c6 k6
  have C6 : Cal l.prog w K mg base 3 "_law_font" ["feed", "name"] m_law_font := ⟨_, _, ok_law_font F6 T C5 C4, PySem.W.mg_of X G0 a6, k6, F6.binds (ps := ["feed", "name"]) fun _ _ _ _ _ _ us hl => match us, hl with | [_, _], _ => rfl⟩
  have F7 := fun_mk (st := s_law_edges) l7 c7 k7
  have C7 : Cal l.prog w K mg base 1 "_law_edges" ["font", "glyphs"] m_law_edges := ⟨_, _, ok_law_edges F7 T , PySem.W.mg_of X G0 a7, k7, F7.binds (ps := ["font", "glyphs"]) fun _ _ _ _ _ _ us hl => match us, hl with | [_, _], _ => rfl⟩
  have F8 := fun_mk (st := s_law_same) l8 c8 k8
  have C8 : Cal l.prog w K mg base 4 "_law_same" ["actual", "due"] (m_law_same 4) := ok_law_same F8 T  (PySem.W.mg_of X G0 a8) k8 (F8.binds (ps := ["actual", "due"]) fun _ _ _ _ _ _ us hl => match us, hl with | [_, _], _ => rfl) 4
  have F9 := fun_mk (st := s_law_glyphs) l9 c9 k9
  have C9 : Cal l.prog w K mg base 2 "_law_glyphs" ["feed", "font"] m_law_glyphs := ⟨_, _, ok_law_glyphs F9 T C4, PySem.W.mg_of X G0 a9, k9, F9.binds (ps := ["feed", "font"]) fun _ _ _ _ _ _ us hl => match us, hl with | [_, _], _ => rfl⟩
  have F10 := fun_mk (st := s_law) l10 c10 k10
  exact law_of (ok_law F10 T C3 C6 C9 C7 C0 C8 C1 C2) math
end G
open PySem PySem.W PyProof.Rows
theorem PySem.Challenge.cw_galleypapers_k32_rows_of_glyphs_holds : PySem.Challenge.rw_galleypapers_k32_rows_of_glyphs.Holds := by
  w_on; o_law; k_head; (case hw => w_witness2)
  k_fill
  refine L2.walk_of (l := PySem.Challenge.rw_galleypapers_k32_rows_of_glyphs) (n := 63) (k := 5) (x := "script") (CX := fun _ => L2.CX0) (sp := fun w => M.spLaw _) rfl (by decide) rfl ⟨rfl, by decide, by decide⟩ (fun w h Y => PySem.W.kIn_of Y) ?F (fun _ _ a ns hl _ hS => ⟨a, ns, rfl, hS, hl, fun _ => rfl⟩) (fun _ _ _ _ _ h => h)
  case F =>
    intro w mg fa h KX GG hmg
    refine' G.all_mk KX GG hmg ?a0 ?l0 ?c0 ?k0 ?a1 ?l1 ?c1 ?k1 ?a2 ?l2 ?c2 ?k2 ?a3 ?l3 ?c3 ?k3 ?a4 ?l4 ?c4 ?k4 ?a5 ?l5 ?c5 ?k5 ?a6 ?l6 ?c6 ?k6 ?a7 ?l7 ?c7 ?k7 ?a8 ?l8 ?c8 ?k8 ?a9 ?l9 ?c9 ?k9 ?a10 ?l10 ?c10 ?k10 ?z_enumerate ?z_max ?z_range ?z_int ?z_len ?z_list ?z_sorted ?z_min ?z_isinstance ?z_bool ?z_str ?z_tuple
    (case a0 => k_is)
    (case l0 => k_is)
    (case c0 => k_is)
    (case k0 => k_is)
    (case a1 => k_is)
    (case l1 => k_is)
    (case c1 => k_is)
    (case k1 => k_is)
    (case a2 => k_is)
    (case l2 => k_is)
    (case c2 => k_is)
    (case k2 => k_is)
    (case a3 => k_is)
    (case l3 => k_is)
    (case c3 => k_is)
    (case k3 => k_is)
    (case a4 => k_is)
    (case l4 => k_is)
    (case c4 => k_is)
    (case k4 => k_is)
    (case a5 => k_is)
    (case l5 => k_is)
    (case c5 => k_is)
    (case k5 => k_is)
    (case a6 => k_is)
    (case l6 => k_is)
    (case c6 => k_is)
    (case k6 => k_is)
    (case a7 => k_is)
    (case l7 => k_is)
    (case c7 => k_is)
    (case k7 => k_is)
    (case a8 => k_is)
    (case l8 => k_is)
    (case c8 => k_is)
    (case k8 => k_is)
    (case a9 => k_is)
    (case l9 => k_is)
    (case c9 => k_is)
    (case k9 => k_is)
    (case a10 => k_is)
    (case l10 => k_is)
    (case c10 => k_is)
    (case k10 => k_is)
    (case z_enumerate => k_is)
    (case z_max => k_is)
    (case z_range => k_is)
    (case z_int => k_is)
    (case z_len => k_is)
    (case z_list => k_is)
    (case z_sorted => k_is)
    (case z_min => k_is)
    (case z_isinstance => k_is)
    (case z_bool => k_is)
    (case z_str => k_is)
    (case z_tuple => k_is)

