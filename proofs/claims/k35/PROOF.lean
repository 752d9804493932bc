import PyProof.Rows.All
import Wide.All
import OpenK.AllK
import Wide.FinOn
import HandS.ForMost
import HandS.ForExc
import HandS.Conv
import HandS.More
import HandS.IsInst
import HandS.Style
import KE.KDictCopyH
import KE.SortData
import HandS.SortKw
import KE.KExcSuper
import HandS.ExcInit
import HandS.ExcField
import HandS.ExcIs
import HandS.Nested
import HandS.WordsExc
import HandS.FStr
import KE.KExcIs
import HandS.StrMore
import HandS.Text
import PyProof.StrLawsAffix
import PyProof.StrLawsIn
import PyProof.StrLawsChain
import PyProof.StrLaws
import PyProof.StrLawsTight
import PyProof.ReprRoads
import HandS.EndBits
import HandS.Iter
import PyProof.Draws
import PyProof.EnumMake
import HandS.NoneIn
import HandS.ReplaceLit
import KE.GoesEnum
import PyProof.ReprLen
import PySem.Challenge.RW_galleypapers_k35_points_of_any_string
set_option Elab.async false
set_option linter.all false
set_option maxRecDepth 100000
/-! Values as plain data, a store of cells that may be changed, and what a reading makes of them. -/
namespace M
open PySem L2

/-- plain data; ptr i: the i-th cell of the store -/
inductive D where
  | non | bl (b : Bool) | int (i : Int) | str (s : Str) | tup (ds : List D) | lst (ds : List D)
  | dct (kvs : List (Key × D)) | dcT (kvs : List (List Key × D)) | ptr (i : Nat) | scr (ns : List Int)
  deriving Inhabited
/-- a cell: a thing that may be changed -/
inductive Cell where
  | lst (ds : List D) | dct (kvs : List (Key × D)) | dcT (kvs : List (List Key × D)) | ins (C : Addr) (fs : List (Str × D))
abbrev Sto := List (Option Cell)
abbrev Sl := List (Option D)
/-- an error of an own class, with its attributes -/
structure Exn where
  C : Addr
  fs : List (Str × D)

/-- what can be read can still be read -/
structure Le (F F' : Hp) : Prop where
  lst : ∀ a xs, F a = some (.lst xs) → F' a = some (.lst xs)
  tup : ∀ a xs, F a = some (.tup xs) → F' a = some (.tup xs)
  dk : ∀ a kvs, Rd F a (.dK kvs) → Rd F' a (.dK kvs)
  dt : ∀ a kvs, Rd F a (.dT kvs) → Rd F' a (.dT kvs)
  sq : ∀ a xs, Rd F a (.lst xs) → Rd F' a (.lst xs)
theorem Le.refl (F : Hp) : Le F F := ⟨fun _ _ h => h, fun _ _ h => h, fun _ _ h => h, fun _ _ h => h, fun _ _ h => h⟩
theorem Le.trans {F G J : Hp} (a : Le F G) (b : Le G J) : Le F J :=
  ⟨fun x u h => b.lst x u (a.lst x u h), fun x u h => b.tup x u (a.tup x u h), fun x u h => b.dk x u (a.dk x u h), fun x u h => b.dt x u (a.dt x u h), fun x u h => b.sq x u (a.sq x u h)⟩
theorem rd_of {F G : Hp} (h : ∀ a u, F a = some u → G a = some u) {a : Addr} {u : HO} (r : Rd F a u) : Rd G a u := by
  rcases r with r | ⟨o, r⟩
  · exact .inl (h a _ r)
  · exact .inr ⟨o, h a _ r⟩
theorem Le.of {F G : Hp} (h : ∀ a u, F a = some u → G a = some u) : Le F G :=
  ⟨fun _ _ e => h _ _ e, fun _ _ e => h _ _ e, fun _ _ r => rd_of h r, fun _ _ r => rd_of h r, fun _ _ r => rd_of h r⟩
theorem Le.sqL {K : PySem.W.Frag} {F G : Hp} {a : Addr} {xs : List V} (l : Le F G) (h : SqL K F a xs) : SqL K G a xs := h.imp (l.sq a _) id

mutual
inductive Rep (K : PySem.W.Frag) (F : Hp) (α : List Addr) : V → D → Prop
  | non : Rep K F α .non .non
  | bl (b : Bool) : Rep K F α (.bl b) (.bl b)
  | int (i : Int) : Rep K F α (.int i) (.int i)
  | str (s : Str) : Rep K F α (.str s) (.str s)
  | tup {a : Addr} {xs : List V} {ds : List D} : F a = some (.tup xs) → Reps K F α xs ds → Rep K F α (.ref a) (.tup ds)
  | lst {a : Addr} {xs : List V} {ds : List D} : F a = some (.lst xs) → Reps K F α xs ds → Rep K F α (.ref a) (.lst ds)
  | dct {a : Addr} {kvs : List (Key × V)} {ds : List (Key × D)} : Rd F a (.dK kvs) → kvs.map (·.1) = ds.map (·.1) → Reps K F α (kvs.map (·.2)) (ds.map (·.2)) → Rep K F α (.ref a) (.dct ds)
  | dcT {a : Addr} {kvs : List (List Key × V)} {ds : List (List Key × D)} : Rd F a (.dT kvs) → kvs.map (·.1) = ds.map (·.1) → Reps K F α (kvs.map (·.2)) (ds.map (·.2)) → Rep K F α (.ref a) (.dcT ds)
  | ptr {a : Addr} {i : Nat} : α[i]? = some a → Rep K F α (.ref a) (.ptr i)
  | scr {a : Addr} {ns : List Int} : SqL K F a (ns.map V.int) → Rep K F α (.ref a) (.scr ns)
inductive Reps (K : PySem.W.Frag) (F : Hp) (α : List Addr) : List V → List D → Prop
  | nil : Reps K F α [] []
  | cons {v : V} {d : D} {vs : List V} {ds : List D} : Rep K F α v d → Reps K F α vs ds → Reps K F α (v :: vs) (d :: ds)
end
section
variable {K : PySem.W.Frag} {F F' : Hp} {α α' : List Addr}
def Pre (α α' : List Addr) : Prop := ∀ (i : Nat) a, α[i]? = some a → α'[i]? = some a
theorem Pre.refl (α : List Addr) : Pre α α := fun _ _ h => h
theorem Pre.trans {α β γ : List Addr} (a : Pre α β) (b : Pre β γ) : Pre α γ := fun i x h => b i x (a i x h)
theorem Pre.app (α β : List Addr) : Pre α (α ++ β) := fun i a h => by
  rw [List.getElem?_append_left (List.getElem?_eq_some_iff.mp h).1]; exact h
mutual
theorem Rep.mono (l : Le F F') (p : Pre α α') : ∀ {v : V} {d : D}, Rep K F α v d → Rep K F' α' v d
  | _, _, .non => .non
  | _, _, .bl b => .bl b
  | _, _, .int i => .int i
  | _, _, .str s => .str s
  | _, _, .tup h r => .tup (l.tup _ _ h) (Reps.mono l p r)
  | _, _, .lst h r => .lst (l.lst _ _ h) (Reps.mono l p r)
  | _, _, .dct h e r => .dct (l.dk _ _ h) e (Reps.mono l p r)
  | _, _, .dcT h e r => .dcT (l.dt _ _ h) e (Reps.mono l p r)
  | _, _, .ptr h => .ptr (p _ _ h)
  | _, _, .scr h => .scr (l.sqL h)
theorem Reps.mono (l : Le F F') (p : Pre α α') : ∀ {vs : List V} {ds : List D}, Reps K F α vs ds → Reps K F' α' vs ds
  | _, _, .nil => .nil
  | _, _, .cons h r => .cons (Rep.mono l p h) (Reps.mono l p r)
end
theorem Reps.length : ∀ {vs : List V} {ds : List D}, Reps K F α vs ds → vs.length = ds.length
  | _, _, .nil => rfl
  | _, _, .cons _ r => congrArg (· + 1) r.length
theorem Reps.get : ∀ {vs : List V} {ds : List D} {i : Nat} {d : D}, Reps K F α vs ds → ds[i]? = some d → ∃ v, vs[i]? = some v ∧ Rep K F α v d
  | _, _, _, _, .nil, e => by simp at e
  | _, _, 0, _, .cons h _, e => by simp at e; subst e; exact ⟨_, rfl, h⟩
  | _, _, i + 1, d, .cons _ r, e => by
    obtain ⟨v, h1, h2⟩ := Reps.get (i := i) (d := d) r (by simpa using e)
    exact ⟨v, by simpa using h1, h2⟩
theorem Reps.got : ∀ {vs : List V} {ds : List D} {i : Nat} {v : V}, Reps K F α vs ds → vs[i]? = some v → ∃ d, ds[i]? = some d ∧ Rep K F α v d
  | _, _, _, _, .nil, e => by simp at e
  | _, _, 0, _, .cons h _, e => by simp at e; subst e; exact ⟨_, rfl, h⟩
  | _, _, i + 1, d, .cons _ r, e => by
    obtain ⟨v, h1, h2⟩ := Reps.got (i := i) (v := d) r (by simpa using e)
    exact ⟨v, by simpa using h1, h2⟩
theorem Reps.append : ∀ {vs ws : List V} {ds es : List D}, Reps K F α vs ds → Reps K F α ws es → Reps K F α (vs ++ ws) (ds ++ es)
  | _, _, _, _, .nil, s => s
  | _, _, _, _, .cons h r, s => .cons h (r.append s)
theorem Reps.set {v : V} {d : D} (h : Rep K F α v d) : ∀ {vs : List V} {ds : List D} (i : Nat), Reps K F α vs ds → Reps K F α (vs.set i v) (ds.set i d)
  | _, _, _, .nil => .nil
  | _, _, 0, .cons _ r => .cons h r
  | _, _, i + 1, .cons g r => .cons g (Reps.set h i r)
theorem Reps.take : ∀ {vs : List V} {ds : List D} (i : Nat), Reps K F α vs ds → Reps K F α (vs.take i) (ds.take i)
  | _, _, 0, _ => .nil
  | _, _, _ + 1, .nil => .nil
  | _, _, i + 1, .cons g r => .cons g (Reps.take i r)
theorem Reps.drop : ∀ {vs : List V} {ds : List D} (i : Nat), Reps K F α vs ds → Reps K F α (vs.drop i) (ds.drop i)
  | _, _, 0, r => r
  | _, _, _ + 1, .nil => .nil
  | _, _, i + 1, .cons _ r => Reps.drop i r
theorem Reps.reverse : ∀ {vs : List V} {ds : List D}, Reps K F α vs ds → Reps K F α vs.reverse ds.reverse
  | _, _, .nil => .nil
  | _, _, .cons h r => by
    rw [List.reverse_cons, List.reverse_cons]
    exact r.reverse.append (.cons h .nil)
end

/-! ### the world: a store, its addresses, the still part, the heap -/
structure Ws where
  st : Sto
  al : List Addr
  F : Hp
  H : Hp
def Live (st : Sto) (i : Nat) : Prop := ∃ c, st[i]? = some (some c)
/-- a cell stands at a -/
inductive CellAt (K : PySem.W.Frag) (F : Hp) (α : List Addr) (H : Hp) (a : Addr) : Cell → Prop
  | lst {xs : List V} {ds : List D} : H a = some (.lst xs) → Reps K F α xs ds → CellAt K F α H a (.lst ds)
  | dct {kvs : List (Key × V)} {ds : List (Key × D)} : H a = some (.dK kvs) → kvs.map (·.1) = ds.map (·.1) → Reps K F α (kvs.map (·.2)) (ds.map (·.2)) → CellAt K F α H a (.dct ds)
  | dcT {kvs : List (List Key × V)} {ds : List (List Key × D)} : H a = some (.dT kvs) → kvs.map (·.1) = ds.map (·.1) → Reps K F α (kvs.map (·.2)) (ds.map (·.2)) → CellAt K F α H a (.dcT ds)
  | ins {C dx : Addr} {fs : List (Str × V)} {ds : List (Str × D)} : H a = some (.ins C dx fs) → fs.map (·.1) = ds.map (·.1) → Reps K F α (fs.map (·.2)) (ds.map (·.2)) → CellAt K F α H a (.ins C ds)
theorem CellAt.some {K : PySem.W.Frag} {F H : Hp} {α : List Addr} {a : Addr} {c : Cell} (h : CellAt K F α H a c) : H a ≠ none := by
  cases h with
  | lst h _ => rw [h]; exact Option.some_ne_none _
  | dct h _ _ => rw [h]; exact Option.some_ne_none _
  | dcT h _ _ => rw [h]; exact Option.some_ne_none _
  | ins h _ _ => rw [h]; exact Option.some_ne_none _
theorem CellAt.mono {K : PySem.W.Frag} {F F' H H' : Hp} {α α' : List Addr} {a : Addr} {c : Cell} (l : Le F F') (p : Pre α α') (e : H' a = H a) (h : CellAt K F α H a c) : CellAt K F' α' H' a c := by
  cases h with
  | lst h r => exact .lst (e.trans h) (r.mono l p)
  | dct h k r => exact .dct (e.trans h) k (r.mono l p)
  | dcT h k r => exact .dcT (e.trans h) k (r.mono l p)
  | ins h k r => exact .ins (e.trans h) k (r.mono l p)
structure Ok (K : PySem.W.Frag) (w : Ws) : Prop where
  len : w.al.length = w.st.length
  sub : ∀ a u, w.F a = some u → w.H a = some u
  own : ∀ (i : Nat) c, w.st[i]? = some (some c) → ∃ a, w.al[i]? = some a ∧ w.F a = none ∧ CellAt K w.F w.al w.H a c
  inj : ∀ (i j : Nat) a, Live w.st i → Live w.st j → w.al[i]? = some a → w.al[j]? = some a → i = j
/-- a is one of the cells -/
def Own (w : Ws) (a : Addr) : Prop := ∃ i, Live w.st i ∧ w.al[i]? = some a
structure Step (w w' : Ws) : Prop where
  pre : Pre w.al w'.al
  le : Le w.F w'.F
  frame : ∀ b o, w.H b = some o → ¬ Own w b → w'.H b = some o
  old : ∀ b, w.H b ≠ none → (∀ xs, w.H b ≠ some (.tup xs)) → ¬ Own w b → w'.F b = w.F b
  there : ∀ b, w.H b ≠ none → w'.H b ≠ none
  news : ∀ b, Own w' b → Own w b ∨ w.H b = none
theorem Step.refl (w : Ws) : Step w w := ⟨Pre.refl _, Le.refl _, fun _ _ h _ => h, fun _ _ _ _ => rfl, fun _ h => h, fun _ h => .inl h⟩
theorem Step.trans {w w1 w2 : Ws} (a : Step w w1) (b : Step w1 w2) : Step w w2 := by
  refine ⟨a.pre.trans b.pre, a.le.trans b.le, fun x o h n => ?_, fun x h t n => ?_, fun x h => b.there x (a.there x h), fun x h => ?_⟩
  · have n1 : ¬ Own w1 x := fun z => (a.news x z).elim n fun e => by rw [h] at e; cases e
    exact b.frame x o (a.frame x o h n) n1
  · have n1 : ¬ Own w1 x := fun z => (a.news x z).elim n h
    have t1 : ∀ xs, w1.H x ≠ some (.tup xs) := fun xs e => by
      cases q : w.H x with
      | none => exact h q
      | some o =>
        rw [a.frame x o q n] at e
        exact t xs (q.trans e)
    exact (b.old x (a.there x h) t1 n1).trans (a.old x h t n)
  · rcases b.news x h with z | z
    · exact a.news x z
    · refine .inr ?_
      cases q : w.H x with
      | none => rfl
      | some o => exact absurd z (a.there x (by rw [q]; exact Option.some_ne_none _))

/-! ### results -/
inductive R (τ : Type) where
  | ok (x : τ) (st : Sto)
  | exc (e : Exn) (st : Sto)
abbrev MM (τ : Type) := Option (R τ)
def ret {τ : Type} (x : τ) (st : Sto) : MM τ := some (.ok x st)
def bnd {τ υ : Type} (m : MM τ) (k : τ → Sto → MM υ) : MM υ := match m with
  | none => none
  | some (.ok x st) => k x st
  | some (.exc e st) => some (.exc e st)
theorem bnd_ret {τ υ : Type} (x : τ) (st : Sto) (k : τ → Sto → MM υ) : bnd (ret x st) k = k x st := rfl
theorem bnd_ok {τ υ : Type} (x : τ) (st : Sto) (k : τ → Sto → MM υ) : bnd (some (.ok x st)) k = k x st := rfl
theorem bnd_none {τ υ : Type} (k : τ → Sto → MM υ) : bnd none k = none := rfl
theorem bnd_assoc {τ υ φ : Type} (m : MM τ) (k : τ → Sto → MM υ) (j : υ → Sto → MM φ) : bnd (bnd m k) j = bnd m fun x st => bnd (k x st) j := by
  cases m with
  | none => rfl
  | some r => cases r <;> rfl
abbrev FE := Sl → Sto → MM D
abbrev FT := Sl → Sto → MM Bool
abbrev FA := Sl → Sto → MM (List D)
/-- how an error is borne -/
def RepX (K : PySem.W.Frag) (w : Ws) (e : Exn) : Option Addr → Prop
  | none => e.fs = []
  | some d => ∃ vs : List (Str × V), w.H d = some (.xd vs) ∧ w.F d = none ∧ vs.map (·.1) = e.fs.map (·.1) ∧ Reps K w.F w.al (vs.map (·.2)) (e.fs.map (·.2))
def Post {τ υ : Type} (K : PySem.W.Frag) (E : XK) (rp : Ws → υ → τ → Prop) (w : Ws) (m : MM τ) (Q : υ → Hp → Prop) : Prop := match m with
  | none => False
  | some (.ok x st) => ∀ (v : υ) (w' : Ws), w'.st = st → Ok K w' → Step w w' → rp w' v x → Q v w'.H
  | some (.exc e st) => ∀ (d : Option Addr) (w' : Ws), w'.st = st → Ok K w' → Step w w' → RepX K w' e d → E (.ref e.C) d w'.H
abbrev rD (K : PySem.W.Frag) : Ws → V → D → Prop := fun w v d => Rep K w.F w.al v d
abbrev rB : Ws → Bool → Bool → Prop := fun _ a b => a = b
abbrev rA (K : PySem.W.Frag) : Ws → List V → List D → Prop := fun w v d => Reps K w.F w.al v d
theorem Post.step {τ υ : Type} {K : PySem.W.Frag} {E : XK} {rp : Ws → υ → τ → Prop} {w w1 : Ws} {m : MM τ} {Q : υ → Hp → Prop} (s : Step w w1) (h : Post K E rp w m Q) : Post K E rp w1 m Q := by
  match m, h with
  | some (.ok x st), h => exact fun v w' e o t r => h v w' e o (s.trans t) r
  | some (.exc e st), h => exact fun d w' q o t r => h d w' q o (s.trans t) r
/-- what is wanted, weaker -/
theorem Post.imp {τ υ : Type} {K : PySem.W.Frag} {E : XK} {rp : Ws → υ → τ → Prop} {w : Ws} {m : MM τ} {Q Q' : υ → Hp → Prop} (h : Post K E rp w m Q) (k : ∀ v H, Q v H → Q' v H) : Post K E rp w m Q' := by
  match m, h with
  | some (.ok x st), h => exact fun v w' e o t r => k _ _ (h v w' e o t r)
  | some (.exc e st), h => exact fun d w' q o t r => h d w' q o t r
theorem post_ret {τ υ : Type} {K : PySem.W.Frag} {E : XK} {rp : Ws → υ → τ → Prop} {w : Ws} {x : τ} {Q : υ → Hp → Prop} (o : Ok K w) {v : υ} (r : rp w v x) (h : Post K E rp w (ret x w.st) Q) : Q v w.H := h v w rfl o (Step.refl w) r
structure Slots (K : PySem.W.Frag) (w : Ws) (sl : Sl) (σ : St) : Prop where
  len : σ.length = sl.length
  get : ∀ (i : Nat) d, sl[i]? = some (some d) → ∃ v, σ[i]? = some (some v) ∧ Rep K w.F w.al v d
theorem Slots.step {K : PySem.W.Frag} {w w' : Ws} {sl : Sl} {σ : St} (s : Step w w') (h : Slots K w sl σ) : Slots K w' sl σ := ⟨h.len, fun i d e => let ⟨v, a, b⟩ := h.get i d e; ⟨v, a, b.mono s.le s.pre⟩⟩
theorem Slots.set {K : PySem.W.Frag} {w : Ws} {sl : Sl} {σ : St} {i : Nat} {v : V} {d : D} (h : Slots K w sl σ) (r : Rep K w.F w.al v d) : Slots K w (sl.set i (some d)) (σ.set i (some v)) := by
  refine ⟨by rw [List.length_set, List.length_set]; exact h.len, fun j e q => ?_⟩
  by_cases hj : i = j
  · subst hj
    by_cases hi : i < sl.length
    · rw [List.getElem?_set_self hi] at q
      rw [List.getElem?_set_self (by rw [h.len]; exact hi)]
      cases q; exact ⟨_, rfl, r⟩
    · rw [List.getElem?_eq_none (by rw [List.length_set]; omega)] at q; cases q
  · rw [List.getElem?_set_ne hj] at q
    rw [List.getElem?_set_ne hj]
    exact h.get j e q
/-- the reading of an expression refines a plain function -/
def RefE (K : PySem.W.Frag) (E : XK) (t : TE) (f : FE) : Prop := ∀ sl σ w (Q : VK), Ok K w → Slots K w sl σ → Post K E (rD K) w (f sl w.st) Q → t σ w.H Q
def RefT (K : PySem.W.Frag) (E : XK) (t : TT) (f : FT) : Prop := ∀ sl σ w (Q : Bool → Hp → Prop), Ok K w → Slots K w sl σ → Post K E rB w (f sl w.st) Q → t σ w.H Q
def RefA (K : PySem.W.Frag) (E : XK) (t : TA) (f : FA) : Prop := ∀ sl σ w (Q : List V → Hp → Prop), Ok K w → Slots K w sl σ → Post K E (rA K) w (f sl w.st) Q → t σ w.H Q
/-- from a part to what goes on with it -/
theorem post_bnd {τ υ τ' υ' : Type} {K : PySem.W.Frag} {E : XK} {rp : Ws → υ → τ → Prop} {rp' : Ws → υ' → τ' → Prop} {w : Ws} {m : MM τ} {k : τ → Sto → MM τ'} {Q' : υ' → Hp → Prop} {Q : υ → Hp → Prop}
    (h : Post K E rp' w (bnd m k) Q') (g : ∀ v x w1, Ok K w1 → Step w w1 → rp w1 v x → Post K E rp' w1 (k x w1.st) Q' → Q v w1.H) : Post K E rp w m Q := by
  match m, h with
  | some (.ok x st), h => exact fun v w1 e o s r => g v x w1 o s r (Post.step s (by rw [e]; exact h))
  | some (.exc e st), h => exact h
end M

namespace M
open PySem L2
section
variable {K : PySem.W.Frag} {w : Ws}
theorem Ok.H_of_F (o : Ok K w) {a : Addr} (h : w.H a = none) : w.F a = none := by
  cases q : w.F a with
  | none => rfl
  | some u => rw [o.sub a u q] at h; cases h
theorem Ok.own_H (o : Ok K w) {a : Addr} (h : Own w a) : w.H a ≠ none ∧ w.F a = none := by
  obtain ⟨i, ⟨c, hc⟩, e⟩ := h
  obtain ⟨b, e2, f, ca⟩ := o.own i c hc
  rw [e] at e2; cases e2
  exact ⟨ca.some, f⟩
/-- a new thing that stays as it is -/
def Ws.newV (w : Ws) (p : Addr) (o : HO) : Ws := ⟨w.st, w.al, upd w.F p o, upd w.H p o⟩
theorem step_newV (o : Ok K w) {p : Addr} (hp : w.H p = none) (u : HO) : Step w (w.newV p u) := by
  refine ⟨Pre.refl _, Le.of fun a x e => ?_, fun b x e _ => ?_, fun b e _ _ => ?_, fun b e => ?_, fun b h => .inl h⟩
  · show upd w.F p u a = some x
    rw [upd_ne (ne_of_none e (o.H_of_F hp))]; exact e
  · show upd w.H p u b = some x
    rw [upd_ne (ne_of_none e hp)]; exact e
  · show upd w.F p u b = w.F b
    exact upd_ne fun z => e (by rw [z]; exact hp)
  · show upd w.H p u b ≠ none
    by_cases z : b = p
    · subst z; rw [upd_same]; exact Option.some_ne_none _
    · rw [upd_ne z]; exact e
theorem ok_newV (o : Ok K w) {p : Addr} (hp : w.H p = none) (u : HO) : Ok K (w.newV p u) := by
  have s := step_newV o hp u
  refine ⟨o.len, fun a x e => ?_, fun i c h => ?_, o.inj⟩
  · by_cases z : a = p
    · subst z
      have e' : upd w.F a u a = some x := e
      rw [upd_same] at e'
      show upd w.H a u a = some x
      rw [upd_same]; exact e'
    · have e' : upd w.F p u a = some x := e
      rw [upd_ne z] at e'
      show upd w.H p u a = some x
      rw [upd_ne z]; exact o.sub _ _ e'
  · obtain ⟨a, e, f, ca⟩ := o.own i c h
    have z : a ≠ p := fun q => ca.some (by rw [q]; exact hp)
    exact ⟨a, e, (show upd w.F p u a = none by rw [upd_ne z]; exact f), ca.mono s.le s.pre (show upd w.H p u a = w.H a from upd_ne z)⟩
/-- a new cell -/
def Ws.newC (w : Ws) (p : Addr) (o : HO) (c : Cell) : Ws := ⟨w.st ++ [some c], w.al ++ [p], w.F, upd w.H p o⟩
theorem live_app {st : Sto} {c : Option Cell} {i : Nat} (h : Live (st ++ [c]) i) : Live st i ∨ i = st.length := by
  obtain ⟨d, e⟩ := h
  by_cases z : i < st.length
  · rw [List.getElem?_append_left z] at e; exact .inl ⟨d, e⟩
  · refine .inr ?_
    have q := (List.getElem?_eq_some_iff.mp e).1
    rw [List.length_append, List.length_singleton] at q
    omega
theorem Live.lt {st : Sto} {i : Nat} (h : Live st i) : i < st.length := let ⟨_, e⟩ := h; (List.getElem?_eq_some_iff.mp e).1
theorem step_newC (o : Ok K w) {p : Addr} (hp : w.H p = none) (u : HO) (c : Cell) : Step w (w.newC p u c) := by
  refine ⟨Pre.app _ _, Le.refl _, fun b x e _ => ?_, fun b e _ _ => rfl, fun b e => ?_, fun b h => ?_⟩
  · show upd w.H p u b = some x
    rw [upd_ne (ne_of_none e hp)]; exact e
  · show upd w.H p u b ≠ none
    by_cases z : b = p
    · subst z; rw [upd_same]; exact Option.some_ne_none _
    · rw [upd_ne z]; exact e
  · obtain ⟨i, l, e⟩ := h
    have e' : (w.al ++ [p])[i]? = some b := e
    rcases live_app l with z | z
    · rw [List.getElem?_append_left (by rw [o.len]; exact z.lt)] at e'
      exact .inl ⟨i, z, e'⟩
    · rw [List.getElem?_append_right (by rw [o.len, z]; exact Nat.le_refl _), o.len, z, Nat.sub_self] at e'
      cases e'
      exact .inr hp
theorem ok_newC (o : Ok K w) {p : Addr} (hp : w.H p = none) {u : HO} {c : Cell} (hc : CellAt K w.F (w.al ++ [p]) (upd w.H p u) p c) : Ok K (w.newC p u c) := by
  have s := step_newC o hp u c
  have old : ∀ (i : Nat) a, Live w.st i → (w.al ++ [p])[i]? = some a → w.al[i]? = some a := fun i a l e => by
    rw [List.getElem?_append_left (by rw [o.len]; exact l.lt)] at e; exact e
  have new : ∀ (i : Nat) a, i = w.st.length → (w.al ++ [p])[i]? = some a → a = p := fun i a l e => by
    rw [List.getElem?_append_right (by rw [o.len, l]; exact Nat.le_refl _), o.len, l, Nat.sub_self] at e
    cases e; rfl
  have np : ∀ i, Live w.st i → w.al[i]? ≠ some p := fun i l e => (o.own_H ⟨i, l, e⟩).1 hp
  refine ⟨?_, fun a x e => ?_, fun i d h => ?_, fun i j a li lj ei ej => ?_⟩
  · show (w.al ++ [p]).length = (w.st ++ [some c]).length
    rw [List.length_append, List.length_append, o.len]; rfl
  · show upd w.H p u a = some x
    rw [upd_ne (ne_of_none e (o.H_of_F hp))]; exact o.sub _ _ e
  · have h' : (w.st ++ [some c])[i]? = some (some d) := h
    by_cases z : i < w.st.length
    · rw [List.getElem?_append_left z] at h'
      obtain ⟨a, e, f, ca⟩ := o.own i d h'
      have na : a ≠ p := fun q => ca.some (by rw [q]; exact hp)
      exact ⟨a, s.pre _ _ e, f, ca.mono s.le s.pre (show upd w.H p u a = w.H a from upd_ne na)⟩
    · have q := (List.getElem?_eq_some_iff.mp h').1
      rw [List.length_append, List.length_singleton] at q
      have ei : i = w.st.length := by omega
      subst ei
      rw [List.getElem?_append_right (Nat.le_refl _), Nat.sub_self] at h'
      cases h'
      refine ⟨p, ?_, o.H_of_F hp, hc⟩
      show (w.al ++ [p])[w.st.length]? = some p
      rw [List.getElem?_append_right (by rw [o.len]; exact Nat.le_refl _), o.len, Nat.sub_self]; rfl
  · rcases live_app li with zi | zi <;> rcases live_app lj with zj | zj
    · exact o.inj i j a zi zj (old i a zi ei) (old j a zj ej)
    · exact absurd (by rw [← new j a zj ej]; exact old i a zi ei) (np i zi)
    · exact absurd (by rw [← new i a zi ei]; exact old j a zj ej) (np j zj)
    · rw [zi, zj]
/-- a cell is written -/
def Ws.put (w : Ws) (i : Nat) (a : Addr) (o : HO) (c : Cell) : Ws := ⟨w.st.set i (some c), w.al, w.F, upd w.H a o⟩
theorem live_set {st : Sto} {i j : Nat} {c : Cell} (li : Live st i) : Live (st.set i (some c)) j → Live st j := fun ⟨d, e⟩ => by
  by_cases z : i = j
  · subst z; exact li
  · rw [List.getElem?_set_ne z] at e; exact ⟨d, e⟩
theorem step_put {i : Nat} {a : Addr} (o : Ok K w) (l : Live w.st i) (ea : w.al[i]? = some a) (u : HO) (c : Cell) : Step w (w.put i a u c) := by
  have ow : Own w a := ⟨i, l, ea⟩
  refine ⟨Pre.refl _, Le.refl _, fun b x e n => ?_, fun b e _ _ => rfl, fun b e => ?_, fun b ⟨j, lj, e⟩ => .inl ⟨j, live_set l lj, e⟩⟩
  · show upd w.H a u b = some x
    rw [upd_ne fun z => n (by rw [z]; exact ow)]; exact e
  · show upd w.H a u b ≠ none
    by_cases z : b = a
    · subst z; rw [upd_same]; exact Option.some_ne_none _
    · rw [upd_ne z]; exact e
theorem ok_put {i : Nat} {a : Addr} (o : Ok K w) (l : Live w.st i) (ea : w.al[i]? = some a) {u : HO} {c : Cell} (hc : CellAt K w.F w.al (upd w.H a u) a c) : Ok K (w.put i a u c) := by
  have ow : Own w a := ⟨i, l, ea⟩
  obtain ⟨hH, hF⟩ := o.own_H ow
  refine ⟨?_, fun b x e => ?_, fun j d h => ?_, fun j k b lj lk ej ek => o.inj j k b (live_set l lj) (live_set l lk) ej ek⟩
  · show w.al.length = (w.st.set i (some c)).length
    rw [List.length_set]; exact o.len
  · show upd w.H a u b = some x
    rw [upd_ne (ne_of_none e hF)]; exact o.sub _ _ e
  · have h' : (w.st.set i (some c))[j]? = some (some d) := h
    by_cases z : i = j
    · subst z
      rw [List.getElem?_set_self l.lt] at h'
      cases h'
      exact ⟨a, ea, hF, hc⟩
    · rw [List.getElem?_set_ne z] at h'
      obtain ⟨b, e, f, cb⟩ := o.own j d h'
      have nb : b ≠ a := fun q => z (o.inj i j a l ⟨d, h'⟩ ea (by rw [← q]; exact e))
      exact ⟨b, e, f, cb.mono (Le.refl _) (Pre.refl _) (show upd w.H a u b = w.H b from upd_ne nb)⟩
/-- a cell is let be: it will not be changed any more -/
def Ws.frz (w : Ws) (i : Nat) (a : Addr) (o : HO) : Ws := ⟨w.st.set i none, w.al, upd w.F a o, w.H⟩
theorem live_none {st : Sto} {i j : Nat} (h : Live (st.set i none) j) : Live st j ∧ i ≠ j := by
  obtain ⟨d, e⟩ := h
  by_cases z : i = j
  · subst z
    by_cases q : i < st.length
    · rw [List.getElem?_set_self q] at e; cases e
    · rw [List.getElem?_eq_none (by rw [List.length_set]; omega)] at e; cases e
  · rw [List.getElem?_set_ne z] at e; exact ⟨⟨d, e⟩, z⟩
theorem step_frz {i : Nat} {a : Addr} {u : HO} (o : Ok K w) (l : Live w.st i) (ea : w.al[i]? = some a) : Step w (w.frz i a u) := by
  have ow : Own w a := ⟨i, l, ea⟩
  obtain ⟨hH, hF⟩ := o.own_H ow
  refine ⟨Pre.refl _, Le.of fun b x e => ?_, fun b x e _ => e, fun b e _ n => ?_, fun b e => e, fun b ⟨j, lj, e⟩ => .inl ⟨j, (live_none lj).1, e⟩⟩
  · show upd w.F a u b = some x
    rw [upd_ne (ne_of_none e hF)]; exact e
  · show upd w.F a u b = w.F b
    exact upd_ne fun z => n (by rw [z]; exact ow)
theorem ok_frz {i : Nat} {a : Addr} {u : HO} (o : Ok K w) (l : Live w.st i) (ea : w.al[i]? = some a) (hu : w.H a = some u) : Ok K (w.frz i a u) := by
  have ow : Own w a := ⟨i, l, ea⟩
  obtain ⟨hH, hF⟩ := o.own_H ow
  have s := step_frz (u := u) o l ea
  refine ⟨?_, fun b x e => ?_, fun j d h => ?_, fun j k b lj lk ej ek => o.inj j k b (live_none lj).1 (live_none lk).1 ej ek⟩
  · show w.al.length = (w.st.set i none).length
    rw [List.length_set]; exact o.len
  · have e' : upd w.F a u b = some x := e
    by_cases z : b = a
    · subst z; rw [upd_same] at e'; rw [← e']; exact hu
    · rw [upd_ne z] at e'; exact o.sub _ _ e'
  · obtain ⟨lj, z⟩ := live_none ⟨d, h⟩
    have h' : (w.st.set i none)[j]? = some (some d) := h
    rw [List.getElem?_set_ne z] at h'
    obtain ⟨b, e, f, cb⟩ := o.own j d h'
    have nb : b ≠ a := fun q => z (o.inj i j a l ⟨d, h'⟩ ea (by rw [← q]; exact e))
    exact ⟨b, e, (show upd w.F a u b = none by rw [upd_ne nb]; exact f), cb.mono s.le s.pre rfl⟩
end

theorem CellAt.notTup {F H : Hp} {α : List Addr} {a : Addr} {c : Cell} {K : PySem.W.Frag} (h : CellAt K F α H a c) : ∀ xs : List V, H a ≠ Option.some (HO.tup xs) := fun xs e => by
  cases h with
  | lst h _ => rw [h] at e; cases e
  | dct h _ _ => rw [h] at e; cases e
  | dcT h _ _ => rw [h] at e; cases e
  | ins h _ _ => rw [h] at e; cases e
/-- a tuple that stands in the heap may be read -/
def Ws.learn (w : Ws) (p : Addr) (xs : List V) : Ws := ⟨w.st, w.al, upd w.F p (.tup xs), w.H⟩
theorem learn_sub {K : PySem.W.Frag} {w : Ws} (o : Ok K w) {p : Addr} {xs : List V} (hp : w.H p = some (.tup xs)) : ∀ a u, w.F a = some u → upd w.F p (.tup xs) a = some u := fun a u e => by
  by_cases z : a = p
  · subst z
    rw [upd_same]
    have := o.sub _ _ e
    rw [hp] at this
    exact this
  · rw [upd_ne z]; exact e
theorem ok_learn {K : PySem.W.Frag} {w : Ws} (o : Ok K w) {p : Addr} {xs : List V} (hp : w.H p = some (.tup xs)) : Ok K (w.learn p xs) := by
  refine ⟨o.len, fun a x e => ?_, fun i c h => ?_, o.inj⟩
  · have e' : upd w.F p (.tup xs) a = some x := e
    by_cases z : a = p
    · subst z; rw [upd_same] at e'; rw [← e']; exact hp
    · rw [upd_ne z] at e'; exact o.sub _ _ e'
  · obtain ⟨a, e, f, ca⟩ := o.own i c h
    have na : a ≠ p := fun z => ca.notTup xs (by rw [z]; exact hp)
    exact ⟨a, e, (show upd w.F p _ a = none by rw [upd_ne na]; exact f), ca.mono (Le.of (learn_sub o hp)) (Pre.refl _) rfl⟩
theorem step_learn {K : PySem.W.Frag} {w : Ws} (o : Ok K w) {p : Addr} {xs : List V} (hp : w.H p = some (.tup xs)) : Step w (w.learn p xs) := by
  refine ⟨Pre.refl _, Le.of (learn_sub o hp), fun _ _ h _ => h, fun b e t _ => ?_, fun _ h => h, fun _ h => .inl h⟩
  show upd w.F p (.tup xs) b = w.F b
  exact upd_ne fun z => t xs (by rw [z]; exact hp)
/-! ### what a datum tells of its value -/
section
variable {K : PySem.W.Frag} {F : Hp} {α : List Addr} {v : V}
theorem Rep.int_inv {i : Int} (h : Rep K F α v (.int i)) : v = .int i := by cases h; rfl
theorem Rep.bl_inv {b : Bool} (h : Rep K F α v (.bl b)) : v = .bl b := by cases h; rfl
theorem Rep.str_inv {s : Str} (h : Rep K F α v (.str s)) : v = .str s := by cases h; rfl
theorem Rep.non_inv (h : Rep K F α v .non) : v = .non := by cases h; rfl
theorem Rep.tup_inv {ds : List D} (h : Rep K F α v (.tup ds)) : ∃ a xs, v = .ref a ∧ F a = some (.tup xs) ∧ Reps K F α xs ds := by cases h with | tup h r => exact ⟨_, _, rfl, h, r⟩
theorem Rep.lst_inv {ds : List D} (h : Rep K F α v (.lst ds)) : ∃ a xs, v = .ref a ∧ F a = some (.lst xs) ∧ Reps K F α xs ds := by cases h with | lst h r => exact ⟨_, _, rfl, h, r⟩
theorem Rep.scr_inv {ns : List Int} (h : Rep K F α v (.scr ns)) : ∃ a, v = .ref a ∧ SqL K F a (ns.map V.int) := by cases h with | scr h => exact ⟨_, rfl, h⟩
theorem Rep.ptr_inv {i : Nat} (h : Rep K F α v (.ptr i)) : ∃ a, v = .ref a ∧ α[i]? = some a := by cases h with | ptr h => exact ⟨_, rfl, h⟩
theorem Rep.dct_inv {ds : List (Key × D)} (h : Rep K F α v (.dct ds)) : ∃ a kvs, v = .ref a ∧ Rd F a (.dK kvs) ∧ kvs.map (·.1) = ds.map (·.1) ∧ Reps K F α (kvs.map (·.2)) (ds.map (·.2)) := by cases h with | dct h e r => exact ⟨_, _, rfl, h, e, r⟩
theorem Rep.dcT_inv {ds : List (List Key × D)} (h : Rep K F α v (.dcT ds)) : ∃ a kvs, v = .ref a ∧ Rd F a (.dT kvs) ∧ kvs.map (·.1) = ds.map (·.1) ∧ Reps K F α (kvs.map (·.2)) (ds.map (·.2)) := by cases h with | dcT h e r => exact ⟨_, _, rfl, h, e, r⟩
theorem reps_ints : ∀ ns : List Int, Reps K F α (ns.map V.int) (ns.map D.int)
  | [] => .nil
  | n :: r => .cons (.int n) (reps_ints r)
end
def cellL (st : Sto) (i : Nat) : Option (List D) := match st[i]? with
  | some (some (.lst ds)) => some ds
  | _ => none
theorem cellL_some {st : Sto} {i : Nat} {ds : List D} (h : cellL st i = some ds) : st[i]? = some (some (.lst ds)) := by
  unfold cellL at h
  split at h
  · rename_i e q
    cases h; exact q
  · cases h
/-- the items of a list: still, or of a cell -/
def lstOf (st : Sto) : D → Option (List D)
  | .lst ds => some ds
  | .scr ns => some (ns.map .int)
  | .ptr i => cellL st i
  | _ => none
theorem cell_at {K : PySem.W.Frag} {w : Ws} (o : Ok K w) {v : V} {i : Nat} {c : Cell} (r : Rep K w.F w.al v (.ptr i)) (h : w.st[i]? = some (some c)) : ∃ a, v = .ref a ∧ w.al[i]? = some a ∧ w.F a = none ∧ CellAt K w.F w.al w.H a c := by
  obtain ⟨a, e, ha⟩ := r.ptr_inv
  obtain ⟨b, hb, f, ca⟩ := o.own i c h
  rw [ha] at hb; cases hb
  exact ⟨a, e, ha, f, ca⟩
theorem sub_sqL {K : PySem.W.Frag} {w : Ws} (o : Ok K w) {a : Addr} {xs : List V} (h : SqL K w.F a xs) : SqL K w.H a xs := h.imp (rd_of o.sub) id
theorem lstOf_rep {K : PySem.W.Frag} {w : Ws} (o : Ok K w) {v : V} {d : D} {ds : List D} (r : Rep K w.F w.al v d) (h : lstOf w.st d = some ds) : ∃ a xs, v = .ref a ∧ SqL K w.H a xs ∧ Reps K w.F w.al xs ds := by
  cases d with
  | lst es =>
    obtain ⟨a, xs, e, f, rs⟩ := r.lst_inv
    cases h
    exact ⟨a, xs, e, SqL.of (o.sub _ _ f), rs⟩
  | scr ns =>
    obtain ⟨a, e, s⟩ := r.scr_inv
    cases h
    exact ⟨a, _, e, sub_sqL o s, reps_ints ns⟩
  | ptr i =>
    obtain ⟨a, e, _, _, ca⟩ := cell_at o r (cellL_some h)
    cases ca with
    | lst hx rs => exact ⟨a, _, e, SqL.of hx, rs⟩
  | _ => cases h
/-- .. one that stands in the heap by itself -/
def lstOn (st : Sto) : D → Option (List D)
  | .lst ds => some ds
  | .ptr i => cellL st i
  | _ => none
theorem lstOn_rep {K : PySem.W.Frag} {w : Ws} (o : Ok K w) {v : V} {d : D} {ds : List D} (r : Rep K w.F w.al v d) (h : lstOn w.st d = some ds) : ∃ a xs, v = .ref a ∧ w.H a = some (.lst xs) ∧ Reps K w.F w.al xs ds := by
  cases d with
  | lst es =>
    obtain ⟨a, xs, e, f, rs⟩ := r.lst_inv
    cases h
    exact ⟨a, xs, e, o.sub _ _ f, rs⟩
  | ptr i =>
    obtain ⟨a, e, _, _, ca⟩ := cell_at o r (cellL_some h)
    cases ca with
    | lst hx rs => exact ⟨a, _, e, hx, rs⟩
  | _ => cases h
end M

namespace M
open PySem L2
/-! ### judgements -/
structure ME (X : Cx) (E : XK) (e : Expr) (f : FE) : Prop where
  ex : ∃ t, PE X e t ∧ RefE X.K E t f
structure MT (X : Cx) (E : XK) (e : Expr) (f : FT) : Prop where
  ex : ∃ t, PT X e t ∧ RefT X.K E t f
structure MW (X : Cx) (E : XK) (e : Expr) (f : FT) : Prop where
  ex : ∃ t, PW X e t ∧ RefT X.K E t f
structure MA (X : Cx) (E : XK) (es : List Expr) (f : FA) : Prop where
  ex : ∃ t, PA X es t ∧ RefA X.K E t f
def lift {τ : Type} (o : Option τ) (st : Sto) : MM τ := match o with
  | some x => ret x st
  | none => none
theorem lift_some {τ : Type} (x : τ) (st : Sto) : lift (some x) st = ret x st := rfl
theorem lift_none {τ : Type} (st : Sto) : lift (none : Option τ) st = none := rfl
def gv (sl : Sl) (i : Nat) : Option D := match sl[i]? with
  | some (some d) => some d
  | _ => none
theorem gv_some {sl : Sl} {i : Nat} {d : D} (h : gv sl i = some d) : sl[i]? = some (some d) := by
  unfold gv at h
  split at h
  · rename_i e q; cases h; exact q
  · cases h
def mVar (i : Nat) : FE := fun sl st => lift (gv sl i) st
def mC (d : D) : FE := fun _ st => ret d st
section
variable {X : Cx} {E : XK} {K : PySem.W.Frag} {a b c e : Expr} {fa fb fc : FE} {ta tb tc : TE} {pos : Pos}
theorem post_lift {τ υ : Type} {rp : Ws → υ → τ → Prop} {w : Ws} {o : Option τ} {Q : υ → Hp → Prop} (h : Post K E rp w (lift o w.st) Q) : ∃ x, o = some x ∧ Post K E rp w (ret x w.st) Q := by
  cases o with
  | none => exact h.elim
  | some x => exact ⟨x, rfl, h⟩
theorem ref_var (i : Nat) : RefE K E (tVar i) (mVar i) := fun sl σ w Q o s h => by
  obtain ⟨d, e, h⟩ := post_lift h
  obtain ⟨v, h1, h2⟩ := s.get i d (gv_some e)
  exact ⟨v, h1, post_ret o h2 h⟩
theorem me_var (i : Nat) {x : Str} (hN : X.N[i]? = some x := by rfl) (hv : Vis X.env.scope x := by first | exact Or.inl rfl | exact Or.inr (Or.inl rfl) | exact Or.inr (Or.inr rfl)) (hd : (x == ("__debug__" : Str)) = false := by decide)
    (hcd : (x == ("__classdict__" : Str)) = false := by decide) : ME X E (.Name x pos) (mVar i) := ⟨tVar i, pe_var hN hv hd hcd, ref_var i⟩
theorem ref_c {v : V} {d : D} (h : ∀ F α, Rep K F α v d) : RefE K E (tC v) (mC d) := fun sl σ w Q o s q => post_ret o (h _ _) q
theorem me_int {i : Int} {j} : ME X E (.Constant (.int i) j pos) (mC (.int i)) := ⟨_, pe_int, ref_c fun _ _ => .int i⟩
theorem me_bl {b : Bool} {j} : ME X E (.Constant (.bool b) j pos) (mC (.bl b)) := ⟨_, pe_bl, ref_c fun _ _ => .bl b⟩
theorem me_non {j} : ME X E (.Constant .none j pos) (mC .non) := ⟨_, pe_non, ref_c fun _ _ => .non⟩
theorem me_str {x : Str} {j} : ME X E (.Constant (.str x) j pos) (mC (.str x)) := ⟨_, pe_str, ref_c fun _ _ => .str x⟩
theorem me_globI {x : Str} {i : Int} {u : Value} (hg : Gl X x) (hm : X.mg x = some u) (r : RelV (.int i) u) (hd : (x == ("__debug__" : Str)) = false := by decide) : ME X E (.Name x pos) (mC (.int i)) := ⟨_, pe_glob hg hm r hd, ref_c fun _ _ => .int i⟩
theorem me_globS {x : Str} {i : Str} {u : Value} (hg : Gl X x) (hm : X.mg x = some u) (r : RelV (.str i) u) (hd : (x == ("__debug__" : Str)) = false := by decide) : ME X E (.Name x pos) (mC (.str i)) := ⟨_, pe_glob hg hm r hd, ref_c fun _ _ => .str i⟩

/-! ### two operands -/
def mBin (g : Sto → D → D → MM D) (fa fb : FE) : FE := fun sl st => bnd (fa sl st) fun x st => bnd (fb sl st) fun y st => g st x y
def mUn (g : Sto → D → MM D) (fa : FE) : FE := fun sl st => bnd (fa sl st) fun x st => g st x
def Rf2 (K : PySem.W.Frag) (E : XK) (r : R2) (g : Sto → D → D → MM D) : Prop := ∀ x y dx dy w (Q : VK), Ok K w → Rep K w.F w.al x dx → Rep K w.F w.al y dy → Post K E (rD K) w (g w.st dx dy) Q → r x y w.H Q
def Rf1 (K : PySem.W.Frag) (E : XK) (r : V → Hp → VK → Prop) (g : Sto → D → MM D) : Prop := ∀ x dx w (Q : VK), Ok K w → Rep K w.F w.al x dx → Post K E (rD K) w (g w.st dx) Q → r x w.H Q
theorem ref_bin {r : R2} {g : Sto → D → D → MM D} (hr : Rf2 K E r g) (ha : RefE K E ta fa) (hb : RefE K E tb fb) : RefE K E (tOp r ta tb) (mBin g fa fb) := fun sl σ w Q o s h => by
  refine ha sl σ w _ o s (post_bnd h fun x dx w1 o1 s1 rx h1 => ?_)
  refine hb sl σ w1 _ o1 (s.step s1) (post_bnd h1 fun y dy w2 o2 s2 ry h2 => ?_)
  exact hr x y dx dy w2 Q o2 (rx.mono s2.le s2.pre) ry h2
theorem ref_un {r : V → Hp → VK → Prop} {g : Sto → D → MM D} (hr : Rf1 K E r g) (ha : RefE K E ta fa) : RefE K E (tUn r ta) (mUn g fa) := fun sl σ w Q o s h => by
  refine ha sl σ w _ o s (post_bnd h fun x dx w1 o1 s1 rx h1 => ?_)
  exact hr x dx w1 Q o1 rx h1
theorem me_bin {op : Operator} {r : R2} {g : Sto → D → D → MM D} (ho : OpR X (binaryOp op) r) (hr : Rf2 X.K E r g) (ha : ME X E a fa) (hb : ME X E b fb) : ME X E (.BinOp a op b pos) (mBin g fa fb) := by
  obtain ⟨ta, p, q⟩ := ha.ex
  obtain ⟨tb, p', q'⟩ := hb.ex
  exact ⟨_, pe_op ho p p', ref_bin hr q q'⟩
theorem me_un {op : UnaryOp} {r : V → Hp → VK → Prop} {g : Sto → D → MM D} (ho : UnR X (unaryOp op) r) (hr : Rf1 X.K E r g) (ha : ME X E a fa) : ME X E (.UnaryOp op a pos) (mUn g fa) := by
  obtain ⟨ta, p, q⟩ := ha.ex
  exact ⟨_, pe_un ho p, ref_un hr q⟩
theorem me_cmp {op : CmpOp} {r : R2} {g : Sto → D → D → MM D} (ho : OpR X (compareOp op) r) (hr : Rf2 X.K E r g) (ha : ME X E a fa) (hb : ME X E b fb) (hm : behindInMarks op b = false) : ME X E (.Compare a [op] [b] pos) (mBin g fa fb) := by
  obtain ⟨ta, p, q⟩ := ha.ex
  obtain ⟨tb, p', q'⟩ := hb.ex
  exact ⟨_, pe_cmpR ho p p' hm, ref_bin hr q q'⟩
/-- a value that is True or False, as a test -/
def mB (f : FE) : FT := fun sl st => bnd (f sl st) fun x st => match x with
  | .bl c => ret c st
  | _ => none
theorem ref_B (ha : RefE K E ta fa) : RefT K E (tB ta) (mB fa) := fun sl σ w Q o s h => by
  refine ha sl σ w _ o s (post_bnd h fun x dx w1 o1 s1 rx h1 => ?_)
  cases dx with
  | bl c => exact ⟨c, rx.bl_inv, post_ret o1 rfl h1⟩
  | _ => exact h1.elim
theorem ref_test (ha : RefE K E ta fa) : RefT K E (tTest ta) (mB fa) := fun sl σ w Q o s h => by
  refine ha sl σ w _ o s (post_bnd h fun x dx w1 o1 s1 rx h1 => ?_)
  cases dx with
  | bl c => exact ⟨c, rx.bl_inv, post_ret o1 rfl h1⟩
  | _ => exact h1.elim
theorem mt_val (h : ME X E e fa) (he : ∀ whole, isTrue e X.env whole = (do let v ← whole; standAt e.pos; holding [v] (truthy v)) := by intro _; rfl) : MT X E e (mB fa) := by
  obtain ⟨ta, p, q⟩ := h.ex
  exact ⟨_, pt_val p he, ref_B q⟩
theorem mt_cmp {op : CmpOp} {r : R2} {g : Sto → D → D → MM D} (ho : OpR X (compareOp op) r) (hr : Rf2 X.K E r g) (ha : ME X E a fa) (hb : ME X E b fb) (hm : behindInMarks op b = false) : MT X E (.Compare a [op] [b] pos) (mB (mBin g fa fb)) := by
  obtain ⟨ta, p, q⟩ := ha.ex
  obtain ⟨tb, p', q'⟩ := hb.ex
  exact ⟨_, pt_cmpR ho p p' hm, ref_test (ref_bin hr q q')⟩
/-! two comparisons in a row -/
def mChain (g g' : Sto → D → D → MM D) (fa fb fc : FE) : FE := fun sl st => bnd (fa sl st) fun x st => bnd (fb sl st) fun y st => bnd (g st x y) fun z st => match z with
  | .bl k => cond k (bnd (fc sl st) fun u st => g' st y u) (ret (.bl false) st)
  | _ => none
theorem ref_chain {r r' : R2} {g g' : Sto → D → D → MM D} (hr : Rf2 K E r g) (hr' : Rf2 K E r' g') (ha : RefE K E ta fa) (hb : RefE K E tb fb) (hc : RefE K E tc fc) : RefE K E (tChain r r' ta tb tc) (mChain g g' fa fb fc) := fun sl σ w Q o s h => by
  refine ha sl σ w _ o s (post_bnd h fun x dx w1 o1 s1 rx h1 => ?_)
  refine hb sl σ w1 _ o1 (s.step s1) (post_bnd h1 fun y dy w2 o2 s2 ry h2 => ?_)
  refine hr x y dx dy w2 _ o2 (rx.mono s2.le s2.pre) ry (post_bnd h2 fun z dz w3 o3 s3 rz h3 => ?_)
  cases dz with
  | bl k =>
    refine ⟨k, rz.bl_inv, ?_⟩
    cases k with
    | true =>
      refine (if_pos rfl).mpr ?_
      refine hc sl σ w3 _ o3 (((s.step s1).step s2).step s3) (post_bnd h3 fun u du w4 o4 s4 ru h4 => ?_)
      exact hr' y u dy du w4 _ o4 ((ry.mono s3.le s3.pre).mono s4.le s4.pre) ru h4
    | false =>
      refine (if_neg Bool.false_ne_true).mpr ?_
      exact post_ret o3 (.bl false) h3
  | _ => exact h3.elim
theorem me_chain {op op' : CmpOp} {r r' : R2} {g g' : Sto → D → D → MM D} (ho : OpR X (compareOp op) r) (ho' : OpR X (compareOp op') r') (hr : Rf2 X.K E r g) (hr' : Rf2 X.K E r' g') (ha : ME X E a fa) (hb : ME X E b fb) (hc : ME X E c fc)
    (hm : lastMarks [op, op'] [b, c] = false := by with_unfolding_all rfl) : ME X E (.Compare a [op, op'] [b, c] pos) (mChain g g' fa fb fc) := by
  obtain ⟨ta, p, q⟩ := ha.ex
  obtain ⟨tb, p', q'⟩ := hb.ex
  obtain ⟨tc, p2, q2⟩ := hc.ex
  exact ⟨_, pe_chain ho ho' p p' p2 hm, ref_chain hr hr' q q' q2⟩
theorem mt_chain {op op' : CmpOp} {r r' : R2} {g g' : Sto → D → D → MM D} (ho : OpR X (compareOp op) r) (ho' : OpR X (compareOp op') r') (hr : Rf2 X.K E r g) (hr' : Rf2 X.K E r' g') (ha : ME X E a fa) (hb : ME X E b fb) (hc : ME X E c fc)
    (hm : lastMarks [op, op'] [b, c] = false := by with_unfolding_all rfl) : MT X E (.Compare a [op, op'] [b, c] pos) (mB (mChain g g' fa fb fc)) := by
  obtain ⟨ta, p, q⟩ := ha.ex
  obtain ⟨tb, p', q'⟩ := hb.ex
  obtain ⟨tc, p2, q2⟩ := hc.ex
  exact ⟨_, pt_chain ho ho' p p' p2 hm, ref_test (ref_chain hr hr' q q' q2)⟩
end
end M

namespace M
open PySem L2
section
variable {X : Cx} {E : XK} {K : PySem.W.Frag} {a b c e o : Expr} {es rest : List Expr} {fa fb fc : FE} {ga gb gc : FT} {fs : FA} {ta tb tc : TE} {t u : TT} {ts : TA} {pos : Pos}
/-! ### tests -/
def mAnd (f g : FT) : FT := fun sl st => bnd (f sl st) fun c st => cond c (g sl st) (ret false st)
def mOr (f g : FT) : FT := fun sl st => bnd (f sl st) fun c st => cond c (ret true st) (g sl st)
def mNot (f : FT) : FT := fun sl st => bnd (f sl st) fun c st => ret (!c) st
theorem ref_and (h1 : RefT K E t ga) (h2 : RefT K E u gb) : RefT K E (tAnd t u) (mAnd ga gb) := fun sl σ w Q o s h => by
  refine h1 sl σ w _ o s (post_bnd h fun v x w1 o1 s1 r hp => ?_)
  have r : v = x := r
  subst r
  cases v with
  | true => exact (if_pos rfl).mpr (h2 sl σ w1 _ o1 (s.step s1) hp)
  | false => exact (if_neg Bool.false_ne_true).mpr (post_ret o1 rfl hp)
theorem ref_or (h1 : RefT K E t ga) (h2 : RefT K E u gb) : RefT K E (tOr t u) (mOr ga gb) := fun sl σ w Q o s h => by
  refine h1 sl σ w _ o s (post_bnd h fun v x w1 o1 s1 r hp => ?_)
  have r : v = x := r
  subst r
  cases v with
  | true => exact (if_pos rfl).mpr (post_ret o1 rfl hp)
  | false => exact (if_neg Bool.false_ne_true).mpr (h2 sl σ w1 _ o1 (s.step s1) hp)
theorem ref_not (h1 : RefT K E t ga) : RefT K E (tNot t) (mNot ga) := fun sl σ w Q o s h => by
  refine h1 sl σ w _ o s (post_bnd h fun v x w1 o1 s1 r hp => ?_)
  have r : v = x := r
  subst r
  exact post_ret o1 rfl hp
theorem mw_and1 (ha : MT X E a ga) : MW X E (.BoolOp .And [a] pos) ga := by
  obtain ⟨t, p, q⟩ := ha.ex
  exact ⟨_, pw_and1 p, q⟩
theorem mw_or1 (ha : MT X E a ga) : MW X E (.BoolOp .Or [a] pos) ga := by
  obtain ⟨t, p, q⟩ := ha.ex
  exact ⟨_, pw_or1 p, q⟩
theorem mw_and (ha : MT X E a ga) (hb : MW X E (.BoolOp .And (b :: rest) pos) gb) : MW X E (.BoolOp .And (a :: b :: rest) pos) (mAnd ga gb) := by
  obtain ⟨t, p, q⟩ := ha.ex
  obtain ⟨u, p', q'⟩ := hb.ex
  exact ⟨_, pw_and p p', ref_and q q'⟩
theorem mw_or (ha : MT X E a ga) (hb : MW X E (.BoolOp .Or (b :: rest) pos) gb) : MW X E (.BoolOp .Or (a :: b :: rest) pos) (mOr ga gb) := by
  obtain ⟨t, p, q⟩ := ha.ex
  obtain ⟨u, p', q'⟩ := hb.ex
  exact ⟨_, pw_or p p', ref_or q q'⟩
theorem MW.mt (h : MW X E e ga) : MT X E e ga := let ⟨t, p, q⟩ := h.ex; ⟨t, p.pt, q⟩
theorem mt_not (ha : MT X E a ga) : MT X E (.UnaryOp .Not a pos) (mNot ga) := by
  obtain ⟨t, p, q⟩ := ha.ex
  exact ⟨_, pt_not p, ref_not q⟩
/-! as values -/
def mAndV (f g : FE) : FE := fun sl st => bnd (f sl st) fun x st => match x with
  | .bl k => cond k (g sl st) (ret (.bl false) st)
  | _ => none
def mOrV (f g : FE) : FE := fun sl st => bnd (f sl st) fun x st => match x with
  | .bl k => cond k (ret (.bl true) st) (g sl st)
  | _ => none
def mNotV (f : FE) : FE := fun sl st => bnd (f sl st) fun x st => match x with
  | .bl c => ret (.bl (!c)) st
  | _ => none
theorem ref_andV (h1 : RefE K E ta fa) (h2 : RefE K E tb fb) : RefE K E (tAndV ta tb) (mAndV fa fb) := fun sl σ w Q o s h => by
  refine h1 sl σ w _ o s (post_bnd h fun v x w1 o1 s1 r hp => ?_)
  cases x with
  | bl k =>
    refine ⟨k, r.bl_inv, ?_⟩
    cases k with
    | true => exact (if_pos rfl).mpr (h2 sl σ w1 _ o1 (s.step s1) hp)
    | false => exact (if_neg Bool.false_ne_true).mpr (post_ret o1 (.bl false) hp)
  | _ => exact hp.elim
theorem ref_orV (h1 : RefE K E ta fa) (h2 : RefE K E tb fb) : RefE K E (tOrV ta tb) (mOrV fa fb) := fun sl σ w Q o s h => by
  refine h1 sl σ w _ o s (post_bnd h fun v x w1 o1 s1 r hp => ?_)
  cases x with
  | bl k =>
    refine ⟨k, r.bl_inv, ?_⟩
    cases k with
    | true => exact (if_pos rfl).mpr (post_ret o1 (.bl true) hp)
    | false => exact (if_neg Bool.false_ne_true).mpr (h2 sl σ w1 _ o1 (s.step s1) hp)
  | _ => exact hp.elim
theorem ref_notV (h1 : RefE K E ta fa) : RefE K E (tNotV ta) (mNotV fa) := fun sl σ w Q o s h => by
  refine h1 sl σ w _ o s (post_bnd h fun v x w1 o1 s1 r hp => ?_)
  cases x with
  | bl k => exact ⟨k, r.bl_inv, post_ret o1 (.bl (!k)) hp⟩
  | _ => exact hp.elim
theorem me_one {op} (ha : ME X E a fa) : ME X E (.BoolOp op [a] pos) fa := by
  obtain ⟨t, p, q⟩ := ha.ex
  exact ⟨_, pe_one p, q⟩
theorem me_and (ha : ME X E a fa) (hb : ME X E (.BoolOp .And (b :: rest) pos) fb) : ME X E (.BoolOp .And (a :: b :: rest) pos) (mAndV fa fb) := by
  obtain ⟨t, p, q⟩ := ha.ex
  obtain ⟨u, p', q'⟩ := hb.ex
  exact ⟨_, pe_and p p', ref_andV q q'⟩
theorem me_or (ha : ME X E a fa) (hb : ME X E (.BoolOp .Or (b :: rest) pos) fb) : ME X E (.BoolOp .Or (a :: b :: rest) pos) (mOrV fa fb) := by
  obtain ⟨t, p, q⟩ := ha.ex
  obtain ⟨u, p', q'⟩ := hb.ex
  exact ⟨_, pe_or p p', ref_orV q q'⟩
theorem me_not (ha : ME X E a fa) : ME X E (.UnaryOp .Not a pos) (mNotV fa) := by
  obtain ⟨t, p, q⟩ := ha.ex
  exact ⟨_, pe_not p, ref_notV q⟩
def mIfE (g : FT) (f1 f2 : FE) : FE := fun sl st => bnd (g sl st) fun c st => cond c (f1 sl st) (f2 sl st)
theorem ref_ifE (h : RefT K E t ga) (h1 : RefE K E ta fa) (h2 : RefE K E tb fb) : RefE K E (tIf t ta tb) (mIfE ga fa fb) := fun sl σ w Q o s hq => by
  refine h sl σ w _ o s (post_bnd hq fun v x w1 o1 s1 r hp => ?_)
  have r : v = x := r
  subst r
  cases v with
  | true => exact (if_pos rfl).mpr (h1 sl σ w1 _ o1 (s.step s1) hp)
  | false => exact (if_neg Bool.false_ne_true).mpr (h2 sl σ w1 _ o1 (s.step s1) hp)
theorem me_if (hc : MT X E c ga) (ha : ME X E a fa) (hb : ME X E b fb) : ME X E (.IfExp c a b pos) (mIfE ga fa fb) := by
  obtain ⟨t, p, q⟩ := hc.ex
  obtain ⟨t1, p1, q1⟩ := ha.ex
  obtain ⟨t2, p2, q2⟩ := hb.ex
  exact ⟨_, pe_ifExp p p1 p2, ref_ifE q q1 q2⟩
/-! truth of any value -/
def truD (st : Sto) : D → Option Bool
  | .non => some false
  | .bl b => some b
  | .int i => some (i != 0)
  | .str y => if y.length ≤ sizeLine then some ((y.length : Int) != 0) else none
  | .lst ds => some (!ds.isEmpty)
  | .scr ds => some (!ds.isEmpty)
  | .tup ds => some (!ds.isEmpty)
  | .dct ds => none
  | .dcT ds => none
  | .ptr i => match cellL st i with
    | some ds => some (!ds.isEmpty)
    | none => none
def mTru (f : FE) : FT := fun sl st => bnd (f sl st) fun x st => lift (truD st x) st
theorem Reps.empty {F : Hp} {α : List Addr} {xs : List V} {ds : List D} (r : Reps K F α xs ds) : xs.isEmpty = ds.isEmpty := by
  cases r <;> rfl
theorem truD_ok {w : Ws} (ok : Ok K w) {v : V} {d : D} {k : Bool} (r : Rep K w.F w.al v d) (h : truD w.st d = some k) : TruV K v w.H k := by
  have viaL : ∀ ds, lstOf w.st d = some ds → k = !ds.isEmpty → TruV K v w.H k := fun ds e ek => by
    obtain ⟨p, xs, rfl, s, rs⟩ := lstOf_rep ok r e
    exact .inl ⟨xs, s, by rw [rs.empty]; exact ek⟩
  cases d with
  | non => cases r; cases h; exact rfl
  | bl b => cases r; cases h; exact rfl
  | int i => cases r; cases h; exact rfl
  | str y =>
    cases r
    have h' : (if y.length ≤ sizeLine then some ((y.length : Int) != 0) else none) = some k := h
    by_cases q : y.length ≤ sizeLine
    · rw [if_pos q] at h'; cases h'; exact ⟨q, rfl⟩
    · rw [if_neg q] at h'; cases h'
  | lst ds => cases h; exact viaL ds rfl rfl
  | scr ns => cases h; exact viaL _ rfl (by cases ns <;> rfl)
  | tup ds =>
    cases h
    obtain ⟨p, xs, rfl, f, rs⟩ := r.tup_inv
    exact .inr (.inl ⟨xs, SqT.of (ok.sub _ _ f), by rw [rs.empty]⟩)
  | dct ds => cases h
  | dcT ds => cases h
  | ptr i =>
    have h' : (match cellL w.st i with | some ds => some (!ds.isEmpty) | none => none) = some k := h
    cases q : cellL w.st i with
    | none => rw [q] at h'; cases h'
    | some ds => rw [q] at h'; cases h'; exact viaL ds q rfl
theorem mt_truth (h : ME X E a fa) (he : ∀ whole, isTrue a X.env whole = (do let v ← whole; standAt a.pos; holding [v] (truthy v)) := by intro _; rfl) : MT X E a (mTru fa) := by
  obtain ⟨t, p, q⟩ := h.ex
  refine ⟨_, pt_truth p he, fun sl σ w Q o s hq => ?_⟩
  refine q sl σ w _ o s (post_bnd hq fun v x w1 o1 s1 r hp => ?_)
  obtain ⟨k, e, hp⟩ := post_lift hp
  exact ⟨k, truD_ok o1 r e, post_ret o1 rfl hp⟩

/-! ### arguments, displays -/
def mNil : FA := fun _ st => ret [] st
def mCons (f : FE) (g : FA) : FA := fun sl st => bnd (f sl st) fun x st => bnd (g sl st) fun xs st => ret (x :: xs) st
theorem ma_nil : MA X E [] mNil := ⟨_, pa_nil, fun sl σ w Q o s h => post_ret o .nil h⟩
theorem ma_cons (ha : ME X E a fa) (hr : MA X E es fs) (hs : starEach (a :: es) X.env = (false, eval a X.env) :: starEach es X.env := by rfl) : MA X E (a :: es) (mCons fa fs) := by
  obtain ⟨t, p, q⟩ := ha.ex
  obtain ⟨t', p', q'⟩ := hr.ex
  refine ⟨_, pa_cons p p' hs, fun sl σ w Q o s h => ?_⟩
  refine q sl σ w _ o s (post_bnd h fun v x w1 o1 s1 r hp => ?_)
  refine q' sl σ w1 _ o1 (s.step s1) (post_bnd hp fun vs xs w2 o2 s2 rs hp2 => ?_)
  exact post_ret o2 (.cons (r.mono s2.le s2.pre) rs) hp2
/-- a new list: a cell (true), or still -/
def mkL (c : Bool) (ds : List D) (st : Sto) : MM D := match c with
  | true => ret (.ptr st.length) (st ++ [some (.lst ds)])
  | false => ret (.lst ds) st
theorem post_mkL {c : Bool} {ds : List D} {w : Ws} {Q : VK} (o : Ok K w) (h : Post K E (rD K) w (mkL c ds w.st) Q) {p : Addr} {xs : List V} (hp : w.H p = none) (r : Reps K w.F w.al xs ds) : Q (.ref p) (upd w.H p (.lst xs)) := by
  cases c with
  | true =>
    have pr := Pre.app w.al [p]
    refine h (.ref p) (w.newC p (.lst xs) (.lst ds)) rfl (ok_newC o hp (.lst upd_same (r.mono (Le.refl _) pr))) (step_newC o hp _ _) (.ptr ?_)
    show (w.al ++ [p])[w.st.length]? = some p
    rw [List.getElem?_append_right (by rw [o.len]; exact Nat.le_refl _), o.len, Nat.sub_self]; rfl
  | false =>
    have s := step_newV o hp (.lst xs)
    exact h (.ref p) (w.newV p (.lst xs)) rfl (ok_newV o hp _) s (.lst (show upd w.F p _ p = _ from upd_same) (r.mono s.le s.pre))
def mkT (ds : List D) (st : Sto) : MM D := ret (.tup ds) st
theorem post_mkT {ds : List D} {w : Ws} {Q : VK} (o : Ok K w) (h : Post K E (rD K) w (mkT ds w.st) Q) {p : Addr} {xs : List V} (hp : w.H p = none) (r : Reps K w.F w.al xs ds) : Q (.ref p) (upd w.H p (.tup xs)) := by
  have s := step_newV o hp (.tup xs)
  exact h (.ref p) (w.newV p (.tup xs)) rfl (ok_newV o hp _) s (.tup (show upd w.F p _ p = _ from upd_same) (r.mono s.le s.pre))
theorem five : (1000 : Nat) ≤ sizeLine := by decide
def mTup (g : FA) : FE := fun sl st => bnd (g sl st) fun ds st => if ds.length ≤ 1000 then mkT ds st else none
def mLst (c : Bool) (g : FA) : FE := fun sl st => bnd (g sl st) fun ds st => if ds.length ≤ 1000 then mkL c ds st else none
theorem post_ite {τ υ : Type} {rp : Ws → υ → τ → Prop} {w : Ws} {p : Prop} [Decidable p] {m : MM τ} {Q : υ → Hp → Prop} (h : Post K E rp w (if p then m else none) Q) : p ∧ Post K E rp w m Q := by
  by_cases q : p
  · rw [if_pos q] at h; exact ⟨q, h⟩
  · rw [if_neg q] at h; exact h.elim
theorem me_tup {x1} (h : MA X E es fs) : ME X E (.Tuple es x1 pos) (mTup fs) := by
  obtain ⟨t, p, q⟩ := h.ex
  refine ⟨_, pe_tup p, fun sl σ w Q o s h => ?_⟩
  refine q sl σ w _ o s (post_bnd h fun vs xs w1 o1 s1 r hp => ?_)
  obtain ⟨hl, hp⟩ := post_ite hp
  exact ⟨by rw [r.length]; exact Nat.le_trans hl five, fun p np => post_mkT o1 hp np r⟩
theorem me_lst (c : Bool) (h : MA X E es fs) : ME X E (.List es pos) (mLst c fs) := by
  obtain ⟨t, p, q⟩ := h.ex
  refine ⟨_, pe_lst p, fun sl σ w Q o s h => ?_⟩
  refine q sl σ w _ o s (post_bnd h fun vs xs w1 o1 s1 r hp => ?_)
  obtain ⟨hl, hp⟩ := post_ite hp
  exact ⟨by rw [r.length]; exact Nat.le_trans hl five, fun p np => post_mkL o1 hp np r⟩

/-! ### calls of what is built in -/
def mCB (g : Sto → List D → MM D) (f : FA) : FE := fun sl st => bnd (f sl st) fun ds st => g st ds
def RfC (K : PySem.W.Frag) (E : XK) (r : List V → Hp → VK → Prop) (g : Sto → List D → MM D) : Prop := ∀ xs ds w (Q : VK), Ok K w → Reps K w.F w.al xs ds → Post K E (rD K) w (g w.st ds) Q → r xs w.H Q
theorem ref_cb {r : List V → Hp → VK → Prop} {g : Sto → List D → MM D} (hr : RfC K E r g) (hs : RefA K E ts fs) : RefE K E (tCB r ts) (mCB g fs) := fun sl σ w Q o s h => by
  refine hs sl σ w _ o s (post_bnd h fun vs xs w1 o1 s1 r hp => ?_)
  exact hr vs xs w1 Q o1 r hp
theorem me_callB {id : String} {r : List V → Hp → VK → Prop} {g : Sto → List D → MM D} {x : Str} {p : Pos} (hc : CallR X (.builtin id) r) (hr : RfC X.K E r g) (hm : X.mg x = none) (hv : bootBuiltins x = some (.builtin id)) (ha : MA X E (a :: es) fs) (hg : Gl X x := by rfl)
    (hn : x ≠ "__name__" := by decide) (hdb : (x == ("__debug__" : Str)) = false := by decide) (he : starEach (a :: es) X.env = (false, eval a X.env) :: starEach es X.env := by rfl) (hpl : (backTo pos (starEach es X.env)).any (·.1) = false := by rfl) : ME X E (.Call (.Name x p) (a :: es) [] pos) (mCB g fs) := by
  obtain ⟨t, p, q⟩ := ha.ex
  exact ⟨_, pe_callB hc hg hm hv p hn hdb he hpl, ref_cb hr q⟩
theorem me_callTy {T : String} {r : List V → Hp → VK → Prop} {g : Sto → List D → MM D} {x : Str} {p : Pos} (hc : CallR X (.type T) r) (hr : RfC X.K E r g) (hm : X.mg x = none) (hv : bootBuiltins x = some (.type T)) (ha : MA X E (a :: es) fs) (hg : Gl X x := by rfl)
    (hn : x ≠ "__name__" := by decide) (hdb : (x == ("__debug__" : Str)) = false := by decide) (he : starEach (a :: es) X.env = (false, eval a X.env) :: starEach es X.env := by rfl) (hpl : (backTo pos (starEach es X.env)).any (·.1) = false := by rfl) : ME X E (.Call (.Name x p) (a :: es) [] pos) (mCB g fs) := by
  obtain ⟨t, p, q⟩ := ha.ex
  exact ⟨_, pe_callTy hc hg hm hv p hn hdb he hpl, ref_cb hr q⟩
end
end M

namespace M
open PySem L2
section
variable {X : Cx} {E : XK} {K : PySem.W.Frag} {a b c e o : Expr} {es rest : List Expr} {fa fb fc : FE} {fs : FA} {ta tb tc : TE} {pos : Pos}
theorem Rf2.or {r r' : R2} {g g' : Sto → D → D → MM D} {h : Sto → D → D → MM D} (h1 : Rf2 K E r g) (h2 : Rf2 K E r' g') (c : Sto → D → D → Bool) (e : ∀ st x y, h st x y = if c st x y then g st x y else g' st x y) : Rf2 K E (fun x y H Q => r x y H Q ∨ r' x y H Q) h := fun x y dx dy w Q o rx ry hp => by
  rw [e] at hp
  by_cases q : c w.st dx dy = true
  · rw [if_pos q] at hp; exact .inl (h1 x y dx dy w Q o rx ry hp)
  · rw [if_neg q] at hp; exact .inr (h2 x y dx dy w Q o rx ry hp)
/-! ### whole numbers -/
def gI (C : Int → Int → Prop) [∀ i j, Decidable (C i j)] (f : Int → Int → D) : Sto → D → D → MM D := fun st x y => match x, y with
  | .int i, .int j => if C i j then ret (f i j) st else none
  | _, _ => none
def gI0 (f : Int → Int → D) : Sto → D → D → MM D := fun st x y => match x, y with
  | .int i, .int j => ret (f i j) st
  | _, _ => none
theorem rf_I {C : Int → Int → Prop} [∀ i j, Decidable (C i j)] {g : Int → Int → V} {f : Int → Int → D} (h : ∀ i j F α, Rep K F α (g i j) (f i j)) : Rf2 K E (rI C g) (gI C f) := fun x y dx dy w Q o rx ry hp => by
  cases dx with
  | int i =>
    cases dy with
    | int j =>
      obtain ⟨hc, hp⟩ := post_ite (p := C i j) hp
      exact ⟨i, j, rx.int_inv, ry.int_inv, hc, post_ret o (h i j _ _) hp⟩
    | _ => exact hp.elim
  | _ => exact hp.elim
theorem rf_I0 {g : Int → Int → V} {f : Int → Int → D} (h : ∀ i j F α, Rep K F α (g i j) (f i j)) : Rf2 K E (rI0 g) (gI0 f) := fun x y dx dy w Q o rx ry hp => by
  cases dx with
  | int i =>
    cases dy with
    | int j => exact ⟨i, j, rx.int_inv, ry.int_inv, post_ret o (h i j _ _) hp⟩
    | _ => exact hp.elim
  | _ => exact hp.elim
instance {i j : Int} : Decidable (CMul i j) := by unfold CMul; infer_instance
instance {i j : Int} : Decidable (CDiv i j) := by unfold CDiv; infer_instance
instance {i j : Int} : Decidable (CPow i j) := by unfold CPow; infer_instance
abbrev gSub := gI0 fun i j => .int (i - j)
abbrev gMul := gI CMul fun i j => .int (i * j)
abbrev gDiv := gI CDiv fun i j => .int (i / j)
abbrev gMod := gI (fun _ j => 0 < j) fun i j => .int (i % j)
abbrev gPow := gI CPow fun i j => .int (i ^ j.toNat)
theorem me_sub (ha : ME X E a fa) (hb : ME X E b fb) : ME X E (.BinOp a .Sub b pos) (mBin gSub fa fb) := me_bin op_sub (rf_I0 fun _ _ _ _ => .int _) ha hb
theorem me_mul (ha : ME X E a fa) (hb : ME X E b fb) : ME X E (.BinOp a .Mult b pos) (mBin gMul fa fb) := me_bin op_mul (rf_I fun _ _ _ _ => .int _) ha hb
theorem me_div (ha : ME X E a fa) (hb : ME X E b fb) : ME X E (.BinOp a .FloorDiv b pos) (mBin gDiv fa fb) := me_bin op_fdiv (rf_I fun _ _ _ _ => .int _) ha hb
theorem me_mod (ha : ME X E a fa) (hb : ME X E b fb) : ME X E (.BinOp a .Mod b pos) (mBin gMod fa fb) := me_bin op_mod (rf_I fun _ _ _ _ => .int _) ha hb
theorem me_pow (ha : ME X E a fa) (hb : ME X E b fb) : ME X E (.BinOp a .Pow b pos) (mBin gPow fa fb) := me_bin op_pow (rf_I fun _ _ _ _ => .int _) ha hb
def gNeg : Sto → D → MM D := fun st x => match x with
  | .int i => ret (.int (-i)) st
  | _ => none
theorem me_neg (ha : ME X E a fa) : ME X E (.UnaryOp .USub a pos) (mUn gNeg fa) := me_un un_neg (fun x dx w Q o rx hp => by
  cases dx with
  | int i => exact ⟨i, rx.int_inv, post_ret o (.int _) hp⟩
  | _ => exact hp.elim) ha
/-! ### + -/
def gAdd (c : Bool) : Sto → D → D → MM D := fun st x y => match x, y with
  | .int i, .int j => ret (.int (i + j)) st
  | .str i, .str j => if i.length + j.length ≤ sizeLine then ret (.str (i ++ j)) st else none
  | x, y => match lstOn st x, lstOn st y with
    | some ds, some es => if ds.length + es.length ≤ sizeLine then mkL c (ds ++ es) st else none
    | _, _ => none
theorem me_add (c : Bool) (ha : ME X E a fa) (hb : ME X E b fb) : ME X E (.BinOp a .Add b pos) (mBin (gAdd c) fa fb) := me_bin (op_add.or (op_add_str.or op_cat)) (fun x y dx dy w Q o rx ry hp => by
  have viaL : (match lstOn w.st dx, lstOn w.st dy with
    | some ds, some es => if ds.length + es.length ≤ sizeLine then mkL c (ds ++ es) w.st else none
    | _, _ => none) = gAdd c w.st dx dy → rCat x y w.H Q := fun e => by
    rw [← e] at hp
    cases h1 : lstOn w.st dx with
    | none => rw [h1] at hp; exact hp.elim
    | some ds =>
      cases h2 : lstOn w.st dy with
      | none => rw [h1, h2] at hp; exact hp.elim
      | some es =>
        rw [h1, h2] at hp
        obtain ⟨hl, hp⟩ := post_ite hp
        obtain ⟨p, xs, rfl, hx, rs⟩ := lstOn_rep o rx h1
        obtain ⟨q, ys, rfl, hy, rs'⟩ := lstOn_rep o ry h2
        exact ⟨p, q, xs, ys, rfl, rfl, hx, hy, by rw [rs.length, rs'.length]; exact hl, fun l nl => post_mkL o hp nl (rs.append rs')⟩
  cases dx with
  | int i =>
    cases dy with
    | int j => exact .inl ⟨i, j, rx.int_inv, ry.int_inv, post_ret o (.int _) hp⟩
    | _ => exact hp.elim
  | str i =>
    cases dy with
    | str j =>
      obtain ⟨hl, hp⟩ := post_ite hp
      exact .inr (.inl ⟨i, j, rx.str_inv, ry.str_inv, hl, post_ret o (.str _) hp⟩)
    | _ => exact hp.elim
  | lst ds => exact .inr (.inr (viaL rfl))
  | ptr i => exact .inr (.inr (viaL rfl))
  | _ => exact hp.elim) ha hb
/-! ### order -/
def gCmp (p : Int → Int → Bool) (q : List Nat → List Nat → Bool) : Sto → D → D → MM D := fun st x y => match x, y with
  | .int i, .int j => ret (.bl (p i j)) st
  | .str i, .str j => ret (.bl (q i.cps.toList j.cps.toList)) st
  | _, _ => none
theorem rf_cmp {p : Int → Int → Bool} {q : List Nat → List Nat → Bool} : Rf2 K E (fun x y H Q => rI0 (fun i j => .bl (p i j)) x y H Q ∨ (∃ i j, x = .str i ∧ y = .str j ∧ Q (.bl (q i.cps.toList j.cps.toList)) H)) (gCmp p q) := fun x y dx dy w Q o rx ry hp => by
  cases dx with
  | int i =>
    cases dy with
    | int j => exact .inl ⟨i, j, rx.int_inv, ry.int_inv, post_ret o (.bl _) hp⟩
    | _ => exact hp.elim
  | str i =>
    cases dy with
    | str j => exact .inr ⟨i, j, rx.str_inv, ry.str_inv, post_ret o (.bl _) hp⟩
    | _ => exact hp.elim
  | _ => exact hp.elim
abbrev gLt := gCmp (fun i j => decide (i < j)) (fun i j => decide (i < j))
abbrev gLe := gCmp (fun i j => decide (i ≤ j)) (fun i j => !decide (j < i))
abbrev gGt := gCmp (fun i j => decide (j < i)) (fun i j => decide (j < i))
abbrev gGe := gCmp (fun i j => decide (j ≤ i)) (fun i j => !decide (i < j))
theorem opr_lt : OpR X (compareOp .Lt) (fun x y H Q => rI0 (fun i j => .bl (decide (i < j))) x y H Q ∨ (∃ i j, x = .str i ∧ y = .str j ∧ Q (.bl (decide (i.cps.toList < j.cps.toList))) H)) := op_lt.or op_lt_str
theorem opr_le : OpR X (compareOp .LtE) (fun x y H Q => rI0 (fun i j => .bl (decide (i ≤ j))) x y H Q ∨ (∃ i j, x = .str i ∧ y = .str j ∧ Q (.bl (!decide (j.cps.toList < i.cps.toList))) H)) := op_le.or op_le_str
theorem opr_gt : OpR X (compareOp .Gt) (fun x y H Q => rI0 (fun i j => .bl (decide (j < i))) x y H Q ∨ (∃ i j, x = .str i ∧ y = .str j ∧ Q (.bl (decide (j.cps.toList < i.cps.toList))) H)) := op_gt.or op_gt_str
theorem opr_ge : OpR X (compareOp .GtE) (fun x y H Q => rI0 (fun i j => .bl (decide (j ≤ i))) x y H Q ∨ (∃ i j, x = .str i ∧ y = .str j ∧ Q (.bl (!decide (i.cps.toList < j.cps.toList))) H)) := op_ge.or op_ge_str
/-! ### ==, != of plain things -/
def scD : D → Option V
  | .non => some .non
  | .bl b => some (.bl b)
  | .int i => some (.int i)
  | .str s => some (.str s)
  | _ => none
theorem scD_rep {F : Hp} {α : List Addr} {v x : V} {d : D} (r : Rep K F α v d) (h : scD d = some x) : v = x := by
  cases d with
  | non => cases h; exact r.non_inv
  | bl b => cases h; exact r.bl_inv
  | int i => cases h; exact r.int_inv
  | str s => cases h; exact r.str_inv
  | _ => cases h
def gEq : Sto → D → D → MM D := fun st x y => match scD x, scD y with
  | some u, some v => if scal u v = true then ret (.bl (decide (u = v))) st else none
  | _, _ => none
def gNe : Sto → D → D → MM D := fun st x y => match scD x, scD y with
  | some u, some v => if scal u v = true then ret (.bl (!decide (u = v))) st else none
  | _, _ => none
theorem rf_eq : Rf2 K E rEq gEq := fun x y dx dy w Q o rx ry hp => by
  unfold gEq at hp
  cases h1 : scD dx with
  | none => rw [h1] at hp; exact hp.elim
  | some u =>
    cases h2 : scD dy with
    | none => rw [h1, h2] at hp; exact hp.elim
    | some v =>
      rw [h1, h2] at hp
      obtain ⟨hs, hp⟩ := post_ite hp
      rw [scD_rep rx h1, scD_rep ry h2]
      exact ⟨hs, post_ret o (.bl _) hp⟩
theorem rf_ne : Rf2 K E rNe gNe := fun x y dx dy w Q o rx ry hp => by
  unfold gNe at hp
  cases h1 : scD dx with
  | none => rw [h1] at hp; exact hp.elim
  | some u =>
    cases h2 : scD dy with
    | none => rw [h1, h2] at hp; exact hp.elim
    | some v =>
      rw [h1, h2] at hp
      obtain ⟨hs, hp⟩ := post_ite hp
      rw [scD_rep rx h1, scD_rep ry h2]
      exact ⟨hs, post_ret o (.bl _) hp⟩
/-! is None -/
def isNon : D → Bool
  | .non => true
  | _ => false
theorem isNon_rep {F : Hp} {α : List Addr} {v : V} {d : D} (r : Rep K F α v d) : decide (v = .non) = isNon d := by
  cases r <;> rfl
def gIsN : Sto → D → D → MM D := fun st x y => match y with
  | .non => ret (.bl (isNon x)) st
  | _ => none
def gNotN : Sto → D → D → MM D := fun st x y => match y with
  | .non => ret (.bl (!isNon x)) st
  | _ => none
theorem rf_isN : Rf2 K E (fun x y H Q => y = .non ∧ Q (.bl (decide (x = .non))) H) gIsN := fun x y dx dy w Q o rx ry hp => by
  cases dy with
  | non => exact ⟨ry.non_inv, by rw [isNon_rep rx]; exact post_ret o (.bl _) hp⟩
  | _ => exact hp.elim
theorem rf_notN : Rf2 K E (fun x y H Q => y = .non ∧ Q (.bl (!decide (x = .non))) H) gNotN := fun x y dx dy w Q o rx ry hp => by
  cases dy with
  | non => exact ⟨ry.non_inv, by rw [isNon_rep rx]; exact post_ret o (.bl _) hp⟩
  | _ => exact hp.elim
/-! ### items -/
def gIx : Sto → D → D → MM D := fun st x y => match y with
  | .int i => match x with
    | .str z => if z.length ≤ sizeLine then lift ((atI z.cps.toList i).map fun c => .str ⟨#[c]⟩) st else none
    | .tup ds => lift (atI ds i) st
    | x => match lstOf st x with
      | some ds => lift (atI ds i) st
      | none => none
  | _ => none
theorem Reps.atI {F : Hp} {α : List Addr} {xs : List V} {ds : List D} {i : Int} {d : D} (r : Reps K F α xs ds) (h : L2.atI ds i = some d) : ∃ v, L2.atI xs i = some v ∧ Rep K F α v d := by
  unfold L2.atI at h ⊢
  rw [r.length]
  cases q : ixN ds.length i with
  | none => rw [q] at h; cases h
  | some j =>
    rw [q] at h
    exact r.get h
theorem me_ix (ha : ME X E a fa) (hb : ME X E b fb) (hs : PlainIx b := by exact fun _ _ => rfl) : ME X E (.Subscript a b pos) (mBin gIx fa fb) := by
  obtain ⟨ta, p, q⟩ := ha.ex
  obtain ⟨tb, p', q'⟩ := hb.ex
  refine ⟨_, pe_ix ix_seq p p' hs, ref_bin (fun x y dx dy w Q o rx ry hp => ?_) q q'⟩
  cases dy with
  | int i =>
    have viaL : (match lstOf w.st dx with
      | some ds => lift (L2.atI ds i) w.st
      | none => none) = gIx w.st dx (.int i) → rIxL X.K x y w.H Q := fun e => by
      rw [← e] at hp
      cases h1 : lstOf w.st dx with
      | none => rw [h1] at hp; exact hp.elim
      | some ds =>
        rw [h1] at hp
        obtain ⟨d, ed, hp⟩ := post_lift hp
        obtain ⟨p, xs, rfl, hx, rs⟩ := lstOf_rep o rx h1
        obtain ⟨v, ev, rv⟩ := rs.atI ed
        exact ⟨p, xs, i, v, rfl, ry.int_inv, hx, ev, post_ret o rv hp⟩
    cases dx with
    | str z =>
      obtain ⟨hz, hp⟩ := post_ite hp
      obtain ⟨d, ed, hp⟩ := post_lift hp
      cases e : L2.atI z.cps.toList i with
      | none => rw [e] at ed; cases ed
      | some c =>
        rw [e] at ed; cases ed
        exact .inr (.inr ⟨z, i, c, rx.str_inv, ry.int_inv, hz, e, post_ret o (.str _) hp⟩)
    | tup ds =>
      obtain ⟨d, ed, hp⟩ := post_lift hp
      obtain ⟨p, xs, rfl, hx, rs⟩ := rx.tup_inv
      obtain ⟨v, ev, rv⟩ := rs.atI ed
      exact .inr (.inl ⟨p, xs, i, v, rfl, ry.int_inv, SqT.of (o.sub _ _ hx), ev, post_ret o rv hp⟩)
    | lst ds => exact .inl (viaL rfl)
    | scr ds => exact .inl (viaL rfl)
    | ptr j => exact .inl (viaL rfl)
    | _ => exact hp.elim
  | _ => exact hp.elim
/-! ### slices -/
abbrev FO := Sl → Sto → MM (Option Int)
structure MO (X : Cx) (E : XK) (e : Option Expr) (f : FO) : Prop where
  ex : ∃ t, PO X e t ∧ ∀ sl σ w (Q : Option Int → Hp → Prop), Ok X.K w → Slots X.K w sl σ → Post X.K E (fun _ a b => a = b) w (f sl w.st) Q → t σ w.H Q
def mNoPart : FO := fun _ st => ret none st
def mPart (f : FE) : FO := fun sl st => bnd (f sl st) fun x st => match x with
  | .int i => ret (some i) st
  | _ => none
theorem mo_none : MO X E none mNoPart := ⟨_, po_none, fun sl σ w Q o s h => post_ret (rp := fun _ a b => a = b) o rfl h⟩
theorem mo_some (ha : ME X E a fa) : MO X E (some a) (mPart fa) := by
  obtain ⟨t, p, q⟩ := ha.ex
  refine ⟨_, po_some p, fun sl σ w Q o s h => ?_⟩
  refine q sl σ w _ o s (post_bnd h fun v x w1 o1 s1 r hp => ?_)
  cases x with
  | int i => exact ⟨i, r.int_inv, post_ret (rp := fun _ a b => a = b) o1 rfl hp⟩
  | _ => exact hp.elim
def cutD (xs : List D) (lo hi : Option Int) : List D := (xs.drop (HT.sIx xs.length 0 lo)).take (HT.sIx xs.length xs.length hi - HT.sIx xs.length 0 lo)
def gSl (c : Bool) : Sto → D → Option Int → Option Int → MM D := fun st x lo hi => match x with
  | .str z => if z.length ≤ sizeLine then ret (.str (cutS z lo hi)) st else none
  | x => match lstOf st x with
    | some ds => mkL c (cutD ds lo hi) st
    | none => none
def mSl (c : Bool) (f : FE) (l h : FO) : FE := fun sl st => bnd (f sl st) fun x st => bnd (l sl st) fun lo st => bnd (h sl st) fun hi st => gSl c st x lo hi
theorem Reps.cut {F : Hp} {α : List Addr} {xs : List V} {ds : List D} (lo hi : Option Int) (r : Reps K F α xs ds) : Reps K F α (cutV xs lo hi) (cutD ds lo hi) := by
  unfold cutV cutD
  rw [r.length]
  exact (r.drop _).take _
theorem me_sl (c : Bool) {lo hi : Option Expr} {fl fh : FO} {p2 : Pos} (ha : ME X E a fa) (hl : MO X E lo fl) (hh : MO X E hi fh) : ME X E (.Subscript a (.Slice lo hi none p2) pos) (mSl c fa fl fh) := by
  obtain ⟨ta, p, q⟩ := ha.ex
  obtain ⟨tl, p1, q1⟩ := hl.ex
  obtain ⟨th, p2, q2⟩ := hh.ex
  refine ⟨_, pe_slice (sl_str.or sl_list) p p1 p2, fun sl σ w Q o s h => ?_⟩
  refine q sl σ w _ o s (post_bnd h fun x dx w1 o1 s1 rx h1 => ?_)
  refine q1 sl σ w1 _ o1 (s.step s1) (post_bnd h1 fun v lo w2 o2 s2 r1 h2 => ?_)
  have r1 : v = lo := r1
  subst r1
  refine q2 sl σ w2 _ o2 ((s.step s1).step s2) (post_bnd h2 fun u hi w3 o3 s3 r2 hp => ?_)
  have r2 : u = hi := r2
  subst r2
  have rx := (rx.mono s2.le s2.pre).mono s3.le s3.pre
  have viaL : (match lstOf w3.st dx with
      | some ds => mkL c (cutD ds v u) w3.st
      | none => none) = gSl c w3.st dx v u → rSlL X.K x v u w3.H Q := fun e => by
    rw [← e] at hp
    cases h1 : lstOf w3.st dx with
    | none => rw [h1] at hp; exact hp.elim
    | some ds =>
      rw [h1] at hp
      obtain ⟨p, xs, rfl, hx, rs⟩ := lstOf_rep o3 rx h1
      exact ⟨p, xs, rfl, hx, fun l nl => post_mkL o3 hp nl (rs.cut v u)⟩
  cases dx with
  | str z =>
    obtain ⟨hz, hp⟩ := post_ite hp
    exact .inl ⟨z, rx.str_inv, hz, post_ret o3 (.str _) hp⟩
  | lst ds => exact .inr (viaL rfl)
  | scr ds => exact .inr (viaL rfl)
  | ptr j => exact .inr (viaL rfl)
  | _ => exact hp.elim
/-! ### built-in functions -/
def cLen (st : Sto) (ds : List D) : MM D := match ds with
  | [.str z] => if z.length ≤ sizeLine then ret (.int z.length) st else none
  | [.tup xs] => ret (.int xs.length) st
  | [x] => match lstOf st x with
    | some xs => ret (.int xs.length) st
    | none => none
  | _ => none
theorem Reps.one_inv {F : Hp} {α : List Addr} {xs : List V} {d : D} (r : Reps K F α xs [d]) : ∃ x, xs = [x] ∧ Rep K F α x d := by
  cases r with | cons h t => cases t; exact ⟨_, rfl, h⟩
theorem Reps.two_inv {F : Hp} {α : List Addr} {xs : List V} {d e : D} (r : Reps K F α xs [d, e]) : ∃ x y, xs = [x, y] ∧ Rep K F α x d ∧ Rep K F α y e := by
  cases r with | cons h t => cases t with | cons h2 t => cases t; exact ⟨_, _, rfl, h, h2⟩
theorem rf_len {X : Cx} : RfC X.K E (fun xs H Q => ∃ x n, xs = [x] ∧ LenV X.K x H n ∧ Q (.int n) H) cLen := fun xs ds w Q o r hp => by
  cases ds with
  | nil => exact hp.elim
  | cons d t =>
    cases t with
    | cons _ _ => cases d <;> exact hp.elim
    | nil =>
      obtain ⟨x, rfl, rx⟩ := r.one_inv
      have viaL : (match lstOf w.st d with
        | some xs => ret (.int xs.length) w.st
        | none => none) = cLen w.st [d] → ∃ y n, [x] = [y] ∧ LenV X.K y w.H n ∧ Q (.int n) w.H := fun e => by
        rw [← e] at hp
        cases h1 : lstOf w.st d with
        | none => rw [h1] at hp; exact hp.elim
        | some ds =>
          rw [h1] at hp
          obtain ⟨p, xs, rfl, hx, rs⟩ := lstOf_rep o rx h1
          exact ⟨_, ds.length, rfl, .inl ⟨xs, hx, rs.length.symm⟩, post_ret o (.int _) hp⟩
      cases d with
      | str z =>
        obtain ⟨hz, hp⟩ := post_ite hp
        cases rx
        exact ⟨_, z.length, rfl, ⟨hz, rfl⟩, post_ret o (.int _) hp⟩
      | tup xs =>
        obtain ⟨p, ys, rfl, f, rs⟩ := rx.tup_inv
        exact ⟨_, xs.length, rfl, .inr ⟨ys, SqT.of (o.sub _ _ f), rs.length.symm⟩, post_ret o (.int _) hp⟩
      | lst _ => exact viaL rfl
      | scr _ => exact viaL rfl
      | ptr _ => exact viaL rfl
      | _ => exact hp.elim
def cInt (st : Sto) (ds : List D) : MM D := match ds with
  | [.int i] => ret (.int i) st
  | [.bl k] => ret (.int (if k then 1 else 0)) st
  | _ => none
theorem rf_int : RfC K E (fun xs H Q => (∃ i, xs = [.int i] ∧ Q (.int i) H) ∨ ∃ k, xs = [.bl k] ∧ Q (.int (if k then 1 else 0)) H) cInt := fun xs ds w Q o r hp => by
  cases ds with
  | nil => exact hp.elim
  | cons d t =>
    cases t with
    | cons _ _ => cases d <;> exact hp.elim
    | nil =>
      obtain ⟨x, rfl, rx⟩ := r.one_inv
      cases d with
      | int i => exact .inl ⟨i, by rw [rx.int_inv], post_ret o (.int _) hp⟩
      | bl k => exact .inr ⟨k, by rw [rx.bl_inv], post_ret o (.int _) hp⟩
      | _ => exact hp.elim
def c2I (f : Int → Int → Int) (st : Sto) (ds : List D) : MM D := match ds with
  | [.int i, .int j] => ret (.int (f i j)) st
  | _ => none
theorem rf_2I {f : Int → Int → Int} : RfC K E (fun xs H Q => ∃ i j, xs = [.int i, .int j] ∧ Q (.int (f i j)) H) (c2I f) := fun xs ds w Q o r hp => by
  unfold c2I at hp
  split at hp
  · obtain ⟨x, y, rfl, rx, ry⟩ := r.two_inv
    exact ⟨_, _, by rw [rx.int_inv, ry.int_inv], post_ret o (.int _) hp⟩
  · exact hp.elim
abbrev cMax2 := c2I fun i j => if j > i then j else i
abbrev cMin2 := c2I fun i j => if j < i then j else i
def c1I (f : Int → Int) (st : Sto) (ds : List D) : MM D := match ds with
  | [.int i] => ret (.int (f i)) st
  | _ => none
theorem rf_1I {f : Int → Int} : RfC K E (fun xs H Q => ∃ i, xs = [.int i] ∧ Q (.int (f i)) H) (c1I f) := fun xs ds w Q o r hp => by
  unfold c1I at hp
  split at hp
  · obtain ⟨x, rfl, rx⟩ := r.one_inv
    exact ⟨_, by rw [rx.int_inv], post_ret o (.int _) hp⟩
  · exact hp.elim
abbrev cAbs := c1I fun i => if i < 0 then -i else i
def cStrI (st : Sto) (ds : List D) : MM D := match ds with
  | [.int i] => if i.natAbs.log2 < 1920 then ret (.str (toString i)) st else none
  | _ => none
theorem rf_strI : RfC K E (fun xs H Q => ∃ i, xs = [.int i] ∧ i.natAbs.log2 < 1920 ∧ Q (.str (toString i)) H) cStrI := fun xs ds w Q o r hp => by
  unfold cStrI at hp
  split at hp
  · obtain ⟨x, rfl, rx⟩ := r.one_inv
    obtain ⟨hl, hp⟩ := post_ite hp
    exact ⟨_, by rw [rx.int_inv], hl, post_ret o (.str _) hp⟩
  · exact hp.elim
def cOrd (st : Sto) (ds : List D) : MM D := match ds with
  | [.str x] => if x.length = 1 then ret (.int (x.cps.getD 0 0 : Nat)) st else none
  | _ => none
theorem rf_ord : RfC K E (fun xs H Q => ∃ x, xs = [.str x] ∧ x.length = 1 ∧ Q (.int (x.cps.getD 0 0 : Nat)) H) cOrd := fun xs ds w Q o r hp => by
  unfold cOrd at hp
  split at hp
  · obtain ⟨x, rfl, rx⟩ := r.one_inv
    obtain ⟨hl, hp⟩ := post_ite hp
    exact ⟨_, by rw [rx.str_inv], hl, post_ret o (.int _) hp⟩
  · exact hp.elim
def cList (c : Bool) (st : Sto) (ds : List D) : MM D := match ds with
  | [.tup xs] => mkL c xs st
  | [x] => match lstOf st x with
    | some xs => mkL c xs st
    | none => none
  | _ => none
theorem rf_list (c : Bool) : RfC K E (fun xs H Q => ∃ p ys, xs = [.ref p] ∧ (SqL K H p ys ∨ SqT K H p ys) ∧ ∀ l, H l = none → Q (.ref l) (upd H l (.lst ys))) (cList c) := fun xs ds w Q o r hp => by
  cases ds with
  | nil => exact hp.elim
  | cons d t =>
    cases t with
    | cons _ _ => cases d <;> exact hp.elim
    | nil =>
      obtain ⟨x, rfl, rx⟩ := r.one_inv
      have viaL : (match lstOf w.st d with
        | some xs => mkL c xs w.st
        | none => none) = cList c w.st [d] → ∃ p ys, [x] = [.ref p] ∧ (SqL K w.H p ys ∨ SqT K w.H p ys) ∧ ∀ l, w.H l = none → Q (.ref l) (upd w.H l (.lst ys)) := fun e => by
        rw [← e] at hp
        cases h1 : lstOf w.st d with
        | none => rw [h1] at hp; exact hp.elim
        | some ds =>
          rw [h1] at hp
          obtain ⟨p, xs, rfl, hx, rs⟩ := lstOf_rep o rx h1
          exact ⟨p, xs, rfl, .inl hx, fun l nl => post_mkL o hp nl rs⟩
      cases d with
      | tup xs =>
        obtain ⟨p, ys, rfl, f, rs⟩ := rx.tup_inv
        exact ⟨p, ys, rfl, .inr (SqT.of (o.sub _ _ f)), fun l nl => post_mkL o hp nl rs⟩
      | lst _ => exact viaL rfl
      | scr _ => exact viaL rfl
      | ptr _ => exact viaL rfl
      | _ => exact hp.elim
end
end M

namespace M
open PySem L2
inductive Fl where
  | nx (sl : Sl) | rt (d : D) | bk (sl : Sl) | ct (sl : Sl)
abbrev FS := Sl → Sto → MM Fl
def FlOk (K : PySem.W.Frag) (D : Ends) (w : Ws) : Fl → Prop
  | .nx sl => ∀ σ, Slots K w sl σ → D.nx σ w.H
  | .rt d => ∀ v, Rep K w.F w.al v d → D.rt v w.H
  | .bk sl => ∀ σ, Slots K w sl σ → D.bk σ w.H
  | .ct sl => ∀ σ, Slots K w sl σ → D.ct σ w.H
def PostS (K : PySem.W.Frag) (E : XK) (w : Ws) (m : MM Fl) (D : Ends) : Prop := match m with
  | none => False
  | some (.ok f st) => ∀ w', w'.st = st → Ok K w' → Step w w' → FlOk K D w' f
  | some (.exc e st) => ∀ (d : Option Addr) (w' : Ws), w'.st = st → Ok K w' → Step w w' → RepX K w' e d → E (.ref e.C) d w'.H
section
variable {K : PySem.W.Frag} {E : XK} {w w1 : Ws} {D : Ends} {m : MM Fl}
theorem PostS.step (s : Step w w1) (h : PostS K E w m D) : PostS K E w1 m D := by
  match m, h with
  | some (.ok x st), h => exact fun w' e o t => h w' e o (s.trans t)
  | some (.exc e st), h => exact fun d w' q o t r => h d w' q o (s.trans t) r
theorem postS_ret {f : Fl} (o : Ok K w) (h : PostS K E w (ret f w.st) D) : FlOk K D w f := h w rfl o (Step.refl w)
/-- from an expression to the statement around it -/
theorem post_bndS {τ υ : Type} {rp : Ws → υ → τ → Prop} {m : MM τ} {k : τ → Sto → MM Fl} {Q : υ → Hp → Prop}
    (h : PostS K E w (bnd m k) D) (g : ∀ v x w1, Ok K w1 → Step w w1 → rp w1 v x → PostS K E w1 (k x w1.st) D → Q v w1.H) : Post K E rp w m Q := by
  match m, h with
  | some (.ok x st), h => exact fun v w1 e o s r => g v x w1 o s r (PostS.step s (by rw [e]; exact h))
  | some (.exc e st), h => exact h
theorem postS_bnd {k : Fl → Sto → MM Fl} {D' : Ends} (h : PostS K E w (bnd m k) D) (g : ∀ f w1, Ok K w1 → Step w w1 → PostS K E w1 (k f w1.st) D → FlOk K D' w1 f) : PostS K E w m D' := by
  match m, h with
  | some (.ok x st), h => exact fun w1 e o s => g x w1 o s (PostS.step s (by rw [e]; exact h))
  | some (.exc e st), h => exact h
theorem postS_lift {τ : Type} {o : Option τ} {st : Sto} {k : τ → Sto → MM Fl} (h : PostS K E w (bnd (lift o st) k) D) : ∃ x, o = some x ∧ PostS K E w (k x st) D := by
  cases o with
  | none => exact h.elim
  | some x => exact ⟨x, rfl, h⟩
theorem postS_ite {p : Prop} [Decidable p] (h : PostS K E w (if p then m else none) D) : p ∧ PostS K E w m D := by
  by_cases q : p
  · rw [if_pos q] at h; exact ⟨q, h⟩
  · rw [if_neg q] at h; exact h.elim
end
def RefS (K : PySem.W.Frag) (E : XK) (t : TS) (g : FS) : Prop := ∀ sl σ w D, Ok K w → Slots K w sl σ → PostS K E w (g sl w.st) D → t D σ w.H
structure MS (X : Cx) (E : XK) (s : Stmt) (g : FS) : Prop where
  ex : ∃ t, PS X s t ∧ RefS X.K E t g
structure MSs (X : Cx) (E : XK) (s : List Stmt) (g : FS) : Prop where
  ex : ∃ t, PSs X s t ∧ RefS X.K E t g
/-! targets -/
abbrev FG := D → Sl → Sto → MM Sl
abbrev FGs := List D → Sl → Sto → MM Sl
def RefG (K : PySem.W.Frag) (E : XK) (t : TG) (g : FG) : Prop := ∀ v d sl σ w (Q : St → Hp → Prop), Ok K w → Rep K w.F w.al v d → Slots K w sl σ → Post K E (fun w σ sl => Slots K w sl σ) w (g d sl w.st) Q → t v σ w.H Q
def RefGs (K : PySem.W.Frag) (E : XK) (t : TGs) (g : FGs) : Prop := ∀ vs ds sl σ w (Q : St → Hp → Prop), Ok K w → Reps K w.F w.al vs ds → Slots K w sl σ → Post K E (fun w σ sl => Slots K w sl σ) w (g ds sl w.st) Q → t vs σ w.H Q
structure MG (X : Cx) (E : XK) (e : Expr) (g : FG) : Prop where
  ex : ∃ t, PG X e t ∧ RefG X.K E t g
structure MGs (X : Cx) (E : XK) (e : List Expr) (g : FGs) : Prop where
  ex : ∃ t, PGs X e t ∧ RefGs X.K E t g
section
variable {X : Cx} {E : XK} {K : PySem.W.Frag} {a b c e o : Expr} {es rest : List Expr} {fa fb fc : FE} {ga gb : FT} {fs : FA} {ta tb tc : TE} {pos : Pos} {st : Stmt} {sts : List Stmt} {g g1 g2 : FS} {t u : TS}
def gNm (i : Nat) : FG := fun d sl st => ret (sl.set i (some d)) st
theorem mg_name {i : Nat} {x : Str} (hN : X.N.Nodup) (hi : X.N[i]? = some x := by rfl) (hx : Loc X.env.scope x := by first | exact Or.inl rfl | exact Or.inr rfl) (hf : X.fn x = true ∨ X.env.scope.names.lookup x = some .local := by first | exact .inl rfl | exact .inr rfl | assumption) : MG X E (.Name x pos) (gNm i) :=
  ⟨_, pg_name hN hi hx hf, fun v d sl σ w Q o r s h => h (σ.set i (some v)) w rfl o (Step.refl w) (s.set r)⟩
def gsNil : FGs := fun ds sl st => match ds with
  | [] => ret sl st
  | _ => none
def gsCons (g : FG) (r : FGs) : FGs := fun ds sl st => match ds with
  | d :: ds => bnd (g d sl st) fun sl st => r ds sl st
  | [] => none
theorem mgs_nil : MGs X E [] gsNil := ⟨_, pgs_nil, fun vs ds sl σ w Q o r s h => by
  cases r with
  | nil => exact ⟨rfl, h σ w rfl o (Step.refl w) s⟩
  | cons _ _ => exact h.elim⟩
theorem mgs_cons {gt : FG} {gr : FGs} (h1 : MG X E e gt) (h2 : MGs X E es gr) (hs : (assignEach (e :: es) X.env).map (·.2) = assign e X.env :: (assignEach es X.env).map (·.2) := by rfl) : MGs X E (e :: es) (gsCons gt gr) := by
  obtain ⟨t, p, q⟩ := h1.ex
  obtain ⟨t', p', q'⟩ := h2.ex
  refine ⟨_, pgs_cons p p' hs, fun vs ds sl σ w Q o r s h => ?_⟩
  cases r with
  | nil => exact h.elim
  | cons r1 r2 =>
    refine ⟨_, _, rfl, q _ _ sl σ w _ o r1 s (post_bnd h fun σ' sl' w1 o1 s1 sl1 hp => ?_)⟩
    exact q' _ _ sl' σ' w1 Q o1 (r2.mono s1.le s1.pre) sl1 hp
def gTp (n : Nat) (r : FGs) : FG := fun d sl st => match d with
  | .tup ds => if ds.length = n then r ds sl st else none
  | _ => none
theorem mg_tup {k : Nat} {gr : FGs} {n : Nat} (hc : X.calm = true) (h : MGs X E es gr) (hn : (assignEach es X.env).length = n := by rfl) (hst : (assignEach es X.env).findIdx? (·.1) = none := by rfl) : MG X E (.Tuple es k pos) (gTp n gr) := by
  obtain ⟨t, q, r⟩ := h.ex
  refine ⟨_, pg_tup hc q hn hst, fun v d sl σ w Q o rv s hq => ?_⟩
  cases d with
  | tup ds =>
    obtain ⟨hl, hq⟩ := post_ite (p := ds.length = n) hq
    obtain ⟨a, xs, rfl, f, rs⟩ := rv.tup_inv
    exact ⟨a, xs, rfl, SqT.of (o.sub _ _ f), by rw [rs.length]; exact hl, r xs ds sl σ w Q o rs s hq⟩
  | _ => exact hq.elim

/-! ### blocks -/
def sNext : FS := fun sl st => ret (.nx sl) st
def sSeq (g1 g2 : FS) : FS := fun sl st => bnd (g1 sl st) fun f st => match f with
  | .nx sl => g2 sl st
  | f => ret f st
theorem mss_nil : MSs X E [] sNext := ⟨_, pss_nil, fun sl σ w D o s h => postS_ret o h σ s⟩
theorem FlOk.nx_of {D D' : Ends} {w : Ws} {f : Fl} (hr : D.rt = D'.rt) (hb : D.bk = D'.bk) (hc : D.ct = D'.ct) (hn : ∀ sl, f = .nx sl → FlOk K D' w f) (h : FlOk K D w f) : FlOk K D' w f := by
  cases f with
  | nx sl => exact hn sl rfl
  | rt d => exact fun v r => hr ▸ h v r
  | bk sl => exact fun v r => hb ▸ h v r
  | ct sl => exact fun v r => hc ▸ h v r
theorem ref_seq (h1 : RefS K E t g1) (h2 : RefS K E u g2) : RefS K E (tSeq t u) (sSeq g1 g2) := fun sl σ w D o s h => by
  refine h1 sl σ w _ o s (postS_bnd h fun f w1 o1 s1 hf => ?_)
  cases f with
  | nx sl' => exact fun σ' s' => h2 sl' σ' w1 D o1 s' hf
  | rt d => exact postS_ret (E := E) o1 hf
  | bk sl' => exact postS_ret (E := E) o1 hf
  | ct sl' => exact postS_ret (E := E) o1 hf
theorem mss_cons (h1 : MS X E st g1) (h2 : MSs X E sts g2) : MSs X E (st :: sts) (sSeq g1 g2) := by
  obtain ⟨t, p, q⟩ := h1.ex
  obtain ⟨t', p', q'⟩ := h2.ex
  exact ⟨_, pss_cons p p', ref_seq q q'⟩
theorem mss_one (h1 : MS X E st g1) : MSs X E [st] g1 := by
  obtain ⟨t, p, q⟩ := h1.ex
  exact ⟨_, pss_one p, q⟩
/-- the cell that a name holds is let be from here on -/
def frzAt (i : Nat) (sl : Sl) (st : Sto) : Option (Sl × Sto) := match gv sl i with
  | some (.ptr j) => match st[j]? with
    | some (some (.lst ds)) => some (sl.set i (some (.lst ds)), st.set j none)
    | some (some (.dct ds)) => some (sl.set i (some (.dct ds)), st.set j none)
    | some (some (.dcT ds)) => some (sl.set i (some (.dcT ds)), st.set j none)
    | _ => none
  | _ => some (sl, st)
def sFrz (i : Nat) (g : FS) : FS := fun sl st => match frzAt i sl st with
  | some (sl, st) => g sl st
  | none => none
theorem slots_same {w : Ws} {sl : Sl} {σ : St} {i : Nat} {v : V} {d : D} (s : Slots K w sl σ) (hσ : σ[i]? = some (some v)) (r : Rep K w.F w.al v d) : Slots K w (sl.set i (some d)) σ := by
  refine ⟨by rw [List.length_set]; exact s.len, fun j e q => ?_⟩
  by_cases hj : i = j
  · subst hj
    by_cases hi : i < sl.length
    · rw [List.getElem?_set_self hi] at q
      cases q; exact ⟨v, hσ, r⟩
    · rw [List.getElem?_eq_none (by rw [List.length_set]; omega)] at q; cases q
  · rw [List.getElem?_set_ne hj] at q
    exact s.get j e q
theorem ref_frz (i : Nat) (h : RefS K E t g) : RefS K E t (sFrz i g) := fun sl σ w D o s hp => by
  have hp : PostS K E w (match frzAt i sl w.st with
    | some (sl, st) => g sl st
    | none => none) D := hp
  unfold frzAt at hp
  cases e : gv sl i with
  | none => rw [e] at hp; exact h sl σ w D o s hp
  | some d =>
    rw [e] at hp
    cases d with
    | ptr j =>
      obtain ⟨v, hσ, rv⟩ := s.get i _ (gv_some e)
      cases q : w.st[j]? with
      | none => simp only [q] at hp; exact hp.elim
      | some oc =>
        cases oc with
        | none => simp only [q] at hp; exact hp.elim
        | some c =>
          obtain ⟨a, rfl, ha, hF, ca⟩ := cell_at o rv q
          have lj : Live w.st j := ⟨c, q⟩
          cases c with
          | lst ds =>
            simp only [q] at hp
            cases ca with
            | @lst xs _ hx rs =>
              have o1 := ok_frz o lj ha hx
              have s1 := step_frz (u := .lst xs) o lj ha
              refine h _ σ (w.frz j a _) D o1 (slots_same (s.step s1) hσ (.lst (show upd w.F a _ a = _ from upd_same) (rs.mono s1.le s1.pre))) (PostS.step s1 hp)
          | dct ds =>
            simp only [q] at hp
            cases ca with
            | @dct kvs _ hx ek rs =>
              have o1 := ok_frz o lj ha hx
              have s1 := step_frz (u := .dK kvs) o lj ha
              refine h _ σ (w.frz j a _) D o1 (slots_same (s.step s1) hσ (.dct (.inl (show upd w.F a _ a = _ from upd_same)) ek (rs.mono s1.le s1.pre))) (PostS.step s1 hp)
          | dcT ds =>
            simp only [q] at hp
            cases ca with
            | @dcT kvs _ hx ek rs =>
              have o1 := ok_frz o lj ha hx
              have s1 := step_frz (u := .dT kvs) o lj ha
              refine h _ σ (w.frz j a _) D o1 (slots_same (s.step s1) hσ (.dcT (.inl (show upd w.F a _ a = _ from upd_same)) ek (rs.mono s1.le s1.pre))) (PostS.step s1 hp)
          | ins C fs => simp only [q] at hp; exact hp.elim
    | _ => exact h sl σ w D o s hp
theorem mss_frz (i : Nat) (h : MSs X E sts g) : MSs X E sts (sFrz i g) := by
  obtain ⟨t, p, q⟩ := h.ex
  exact ⟨_, p, ref_frz i q⟩
/-! ### simple statements -/
def sAsg (f : FE) (g : FG) : FS := fun sl st => bnd (f sl st) fun d st => bnd (g d sl st) fun sl st => ret (.nx sl) st
theorem ref_asg {tg : TG} {gg : FG} (h : RefE K E ta fa) (hg : RefG K E tg gg) : RefS K E (tAsg ta tg) (sAsg fa gg) := fun sl σ w D o s hp => by
  refine h sl σ w _ o s (post_bndS hp fun v x w1 o1 s1 r h1 => ?_)
  refine hg v x sl σ w1 _ o1 r (s.step s1) (post_bndS h1 fun σ' sl' w2 o2 s2 r2 h2 => ?_)
  exact postS_ret o2 h2 σ' r2
theorem ms_asg {tg : Expr} {gg : FG} (he : ME X E e fa) (hg : MG X E tg gg) (hs : swapsWithSole [tg] e pos.line X.env = pure false := by rfl) (hw : swappedStores [tg] e X.env = pure none := by rfl) (h1 : (assignEach [tg] X.env).map (·.2) = [assign tg X.env] := by rfl) : MS X E (.Assign [tg] e pos) (sAsg fa gg) := by
  obtain ⟨t, p, q⟩ := he.ex
  obtain ⟨t', p', q'⟩ := hg.ex
  exact ⟨_, ps_asg p p' hs hw (h1 := h1), ref_asg q q'⟩
theorem ms_set {i : Nat} {x : Str} {pos' : Pos} (hN : X.N.Nodup) (he : ME X E e fa) (hi : X.N[i]? = some x := by rfl) (hx : Loc X.env.scope x := by first | exact Or.inl rfl | exact Or.inr rfl) (hs : swapsWith e (some (.Name x pos')) pos.line X.env = pure false := by rfl)
    (hf : X.fn x = true ∨ X.env.scope.names.lookup x = some .local := by first | exact .inl rfl | exact .inr rfl | assumption) : MS X E (.Assign [.Name x pos'] e pos) (sAsg fa (gNm i)) := by
  obtain ⟨t, p, q⟩ := he.ex
  refine ⟨_, ps_set hN hi hx p hs hf, ref_asg q fun v d sl σ w Q o r s h => h (σ.set i (some v)) w rfl o (Step.refl w) (s.set r)⟩
def sDrop (f : FE) : FS := fun sl st => bnd (f sl st) fun _ st => ret (.nx sl) st
theorem ms_expr (he : ME X E e fa) (hs : swapsWith e none pos.line X.env = pure false := by rfl) : MS X E (.Expr e pos) (sDrop fa) := by
  obtain ⟨t, p, q⟩ := he.ex
  refine ⟨_, ps_expr p hs, fun sl σ w D o s hp => ?_⟩
  exact q sl σ w _ o s (post_bndS hp fun v x w1 o1 s1 r h1 => postS_ret o1 h1 σ (s.step s1))
def sRet (f : FE) : FS := fun sl st => bnd (f sl st) fun d st => ret (.rt d) st
theorem ms_ret (he : ME X E e fa) : MS X E (.Return (some e) pos) (sRet fa) := by
  obtain ⟨t, p, q⟩ := he.ex
  refine ⟨_, ps_ret p, fun sl σ w D o s hp => ?_⟩
  exact q sl σ w _ o s (post_bndS hp fun v x w1 o1 s1 r h1 => postS_ret o1 h1 v r)
def sRetN : FS := fun sl st => ret (.rt .non) st
theorem ms_retN : MS X E (.Return none pos) sRetN := ⟨_, ps_retN, fun sl σ w D o s hp => postS_ret o hp _ .non⟩
theorem ms_pass : MS X E (.Pass pos) sNext := ⟨_, ps_pass, fun sl σ w D o s h => postS_ret o h σ s⟩
theorem ms_doc {x j pos'} : MS X E (.Expr (.Constant (.str x) j pos) pos') sNext := ⟨_, ps_doc, fun sl σ w D o s h => postS_ret o h σ s⟩
def sBrk : FS := fun sl st => ret (.bk sl) st
def sCnt : FS := fun sl st => ret (.ct sl) st
theorem ms_brk : MS X E (.Break pos) sBrk := ⟨_, ps_break, fun sl σ w D o s h => postS_ret o h σ s⟩
theorem ms_cnt : MS X E (.Continue pos) sCnt := ⟨_, ps_continue, fun sl σ w D o s h => postS_ret o h σ s⟩
def sIf (c : FT) (g1 g2 : FS) : FS := fun sl st => bnd (c sl st) fun k st => cond k (g1 sl st) (g2 sl st)
theorem ref_if {tc : TT} (hc : RefT K E tc ga) (h1 : RefS K E t g1) (h2 : RefS K E u g2) : RefS K E (tIfS tc t u) (sIf ga g1 g2) := fun sl σ w D o s h => by
  refine hc sl σ w _ o s (post_bndS h fun v x w1 o1 s1 r hp => ?_)
  have r : v = x := r
  subst r
  cases v with
  | true => exact (if_pos rfl).mpr (h1 sl σ w1 D o1 (s.step s1) hp)
  | false => exact (if_neg Bool.false_ne_true).mpr (h2 sl σ w1 D o1 (s.step s1) hp)
theorem ms_if {s1 s2 : List Stmt} (hc : MT X E c ga) (h1 : MSs X E s1 g1) (h2 : MSs X E s2 g2) : MS X E (.If c s1 s2 pos) (sIf ga g1 g2) := by
  obtain ⟨t, p, q⟩ := hc.ex
  obtain ⟨t1, p1, q1⟩ := h1.ex
  obtain ⟨t2, p2, q2⟩ := h2.ex
  exact ⟨_, ps_if p p1 p2, ref_if q q1 q2⟩
/-! x += e, x -= e on whole numbers (and texts) -/
def sAug (i : Nat) (f : FE) (op : Sto → D → D → MM D) : FS := fun sl st => match gv sl i with
  | some x => bnd (f sl st) fun y st => bnd (op st x y) fun z st => ret (.nx (sl.set i (some z))) st
  | none => none
def RfIp (K : PySem.W.Frag) (E : XK) (ti : TIp) (g : Sto → D → D → MM D) : Prop := ∀ x y dx dy w (Q : VK), Ok K w → Rep K w.F w.al x dx → Rep K w.F w.al y dy → Post K E (rD K) w (g w.st dx dy) Q → ti x y w.H Q
theorem ms_aug {i : Nat} {x : Str} {op : Operator} {ti : TIp} {gi : Sto → D → D → MM D} {pos' : Pos} (hN : X.N.Nodup) (he : ME X E e fa) (ho : PIp X op ti) (hr : RfIp X.K E ti gi) (hi : X.N[i]? = some x := by rfl) (hx : Loc X.env.scope x := by first | exact Or.inl rfl | exact Or.inr rfl)
    (hf : X.fn x = true ∨ X.env.scope.names.lookup x = some .local := by first | exact .inl rfl | exact .inr rfl | assumption) : MS X E (.AugAssign (.Name x pos') op e pos) (sAug i fa gi) := by
  obtain ⟨t, p, q⟩ := he.ex
  refine ⟨_, ps_aug hN hi hx p ho hf, fun sl σ w D o s hp => ?_⟩
  have hp : PostS X.K E w (match gv sl i with
    | some x => bnd (fa sl w.st) fun y st => bnd (gi st x y) fun z st => ret (.nx (sl.set i (some z))) st
    | none => none) D := hp
  cases eg : gv sl i with
  | none => rw [eg] at hp; exact hp.elim
  | some d =>
    rw [eg] at hp
    obtain ⟨v, h1, h2⟩ := s.get i d (gv_some eg)
    refine ⟨v, h1, q sl σ w _ o s (post_bndS hp fun y dy w1 o1 s1 ry hp1 => ?_)⟩
    refine hr v y d dy w1 _ o1 (h2.mono s1.le s1.pre) ry (post_bndS hp1 fun z dz w2 o2 s2 rz hp2 => ?_)
    exact postS_ret o2 hp2 _ (((s.step s1).step s2).set rz)
theorem rip_I {f : Int → Int → Int} : RfIp K E (ipI f) (gI0 fun i j => .int (f i j)) := fun x y dx dy w Q o rx ry hp => by
  cases dx with
  | int i =>
    cases dy with
    | int j => exact ⟨i, j, rx.int_inv, ry.int_inv, post_ret o (.int _) hp⟩
    | _ => exact hp.elim
  | _ => exact hp.elim
end
end M

namespace M
open PySem L2
/-- what a walk gives, whatever is done meanwhile to other things: ds, one behind the other -/
def SeqIt (K : PySem.W.Frag) (w : Ws) (J : It) (ds : List D) : Prop := ∀ w', Ok K w' → Step w w' → J.stop ds.length w'.H ∧
  ∀ i d, ds[i]? = some d → J.go i w'.H ∧ ∀ x H', J.yld i w'.H x H' → ∃ w'', w''.H = H' ∧ w''.st = w'.st ∧ Ok K w'' ∧ Step w' w'' ∧ Rep K w''.F w''.al x d
structure MI (X : Cx) (E : XK) (tg iter : Expr) (f : FA) : Prop where
  ex : ∃ wi, PI X tg iter wi ∧ ∀ sl σ w (R : It → Hp → Prop), Ok X.K w → Slots X.K w sl σ → Post X.K E (fun w J ds => SeqIt X.K w J ds) w (f sl w.st) R → wi σ w.H R
def forL (tg : FG) (body : FS) : List D → Sl → Sto → MM Fl
  | [], sl, st => ret (.nx sl) st
  | d :: ds, sl, st => bnd (tg d sl st) fun sl st => bnd (body sl st) fun f st => match f with
    | .nx sl => forL tg body ds sl st
    | .ct sl => forL tg body ds sl st
    | .bk sl => ret (.nx sl) st
    | .rt d => ret (.rt d) st
def sFor (it : FA) (tg : FG) (body : FS) : FS := fun sl st => bnd (it sl st) fun ds st => forL tg body ds sl st
theorem step_same {w w' : Ws} (h : w'.st = w.st) (l : w'.st.length = w.st.length) : w'.st = w.st := h
section
variable {X : Cx} {E : XK} {K : PySem.W.Frag} {a b c e o : Expr} {es rest : List Expr} {fa fb fc : FE} {fs : FA} {ta tb tc : TE} {pos : Pos} {tg iter : Expr} {body : List Stmt}
theorem ms_for {fi : FA} {gt : FG} {gb : FS} (hp : PassesOwn (model X.prog X.w) X.A X.env X.xe) (hc : X.calm = true) (hi : MI X E tg iter fi) (hg : MG X E tg gt) (hb : MSs X E body gb) (hs : ∀ x, foldedSetIterable iter X.env x = pure x := by intro _; rfl) : MS X E (.For tg iter body [] pos) (sFor fi gt gb) := by
  obtain ⟨wi, p, q⟩ := hi.ex
  obtain ⟨t1, p1, q1⟩ := hg.ex
  obtain ⟨t2, p2, q2⟩ := hb.ex
  refine ⟨_, ps_for hp hc p p1 p2 hs, fun sl σ w D o s h => ?_⟩
  refine q sl σ w _ o s (post_bndS h fun J ds w1 o1 s1 hJ hp => ?_)
  refine ⟨fun i m σ H => i + m = ds.length ∧ ∃ w' sl', w'.H = H ∧ Ok X.K w' ∧ Step w1 w' ∧ Slots X.K w' sl' σ ∧ PostS X.K E w' (forL gt gb (ds.drop i) sl' w'.st) D,
    ⟨ds.length, by omega, w1, sl, rfl, o1, Step.refl _, s.step s1, hp⟩, fun i m σ H ⟨em, w', sl', eH, o', st', sls, hW⟩ => ?_⟩
  subst eH
  obtain ⟨hstop, hgo⟩ := hJ w' o' st'
  cases m with
  | zero =>
    have ei : i = ds.length := by omega
    subst ei
    rw [List.drop_length] at hW
    exact .inl ⟨hstop, postS_ret o' hW σ sls⟩
  | succ m =>
    have hi : i < ds.length := by omega
    have ed : ds[i]? = some ds[i] := List.getElem?_eq_getElem hi
    obtain ⟨g1, g2⟩ := hgo i _ ed
    refine .inr ⟨g1, fun σ2 H2 => ∃ w2 sl2, w2.H = H2 ∧ Ok X.K w2 ∧ Step w1 w2 ∧ Slots X.K w2 sl2 σ2 ∧ PostS X.K E w2 (forL gt gb (ds.drop (i + 1)) sl2 w2.st) D, fun σ2 H2 ⟨w2, sl2, e2, o2, st2, s2, hW2⟩ => ⟨m, by omega, by omega, w2, sl2, e2, o2, st2, s2, hW2⟩, fun x H' hy => ?_⟩
    obtain ⟨w2, rfl, est, o2, st2, rx⟩ := g2 x H' hy
    rw [List.drop_eq_getElem_cons hi] at hW
    have hW2 := PostS.step st2 hW
    have hW2 : PostS X.K E w2 (bnd (gt ds[i] sl' w2.st) fun sl st => bnd (gb sl st) fun f st => match f with
      | .nx sl => forL gt gb (ds.drop (i + 1)) sl st
      | .ct sl => forL gt gb (ds.drop (i + 1)) sl st
      | .bk sl => ret (.nx sl) st
      | .rt d => ret (.rt d) st) D := by rw [est]; exact hW2
    refine q1 x ds[i] sl' σ w2 _ o2 rx (sls.step st2) (post_bndS hW2 fun σ3 sl3 w3 o3 s3 r3 h3 => ?_)
    refine q2 sl3 σ3 w3 _ o3 r3 (postS_bnd h3 fun f w4 o4 s4 h4 => ?_)
    have s14 : Step w1 w4 := ((st'.trans st2).trans s3).trans s4
    cases f with
    | nx sl4 => exact fun σ4 z => ⟨w4, sl4, rfl, o4, s14, z, h4⟩
    | ct sl4 => exact fun σ4 z => ⟨w4, sl4, rfl, o4, s14, z, h4⟩
    | bk sl4 => exact fun σ4 z => postS_ret (E := E) o4 h4 σ4 z
    | rt d => exact fun v z => postS_ret (E := E) o4 h4 v z
/-! ### what is walked -/
/-- the items of a list that is not changed -/
def seqOf : D → Option (List D)
  | .lst ds => some ds
  | .scr ns => some (ns.map .int)
  | _ => none
theorem seqOf_rep {w : Ws} {v : V} {d : D} {ds : List D} (r : Rep K w.F w.al v d) (h : seqOf d = some ds) : ∃ a xs, v = .ref a ∧ SqL K w.F a xs ∧ Reps K w.F w.al xs ds := by
  cases d with
  | lst es =>
    obtain ⟨a, xs, e, f, rs⟩ := r.lst_inv
    cases h
    exact ⟨a, xs, e, SqL.of f, rs⟩
  | scr ns =>
    obtain ⟨a, e, s⟩ := r.scr_inv
    cases h
    exact ⟨a, _, e, s, reps_ints ns⟩
  | _ => cases h
theorem Step.sqL {w w' : Ws} (o : Ok K w') (s : Step w w') {a : Addr} {xs : List V} (h : SqL K w.F a xs) : SqL K w'.H a xs := sub_sqL o (s.le.sqL h)
theorem seq_list {w : Ws} {a : Addr} {xs : List V} {ds : List D} (h : SqL K w.F a xs) (r : Reps K w.F w.al xs ds) : SeqIt K w (Itl K a) ds := fun w' o s => by
  have h' := s.sqL o h
  refine ⟨⟨xs, h', Nat.le_of_eq r.length⟩, fun i d e => ?_⟩
  obtain ⟨v, e1, e2⟩ := r.get e
  refine ⟨⟨xs, v, h', e1⟩, fun x H' hy => ?_⟩
  obtain ⟨rfl, hx⟩ := hy
  have ex : x = v := Option.some.inj ((hx xs h').symm.trans e1)
  subst ex
  exact ⟨w', rfl, rfl, o, Step.refl _, e2.mono s.le s.pre⟩
def iL (f : FE) : FA := fun sl st => bnd (f sl st) fun d st => match seqOf d with
  | some ds => ret ds st
  | none => none
theorem mi_list (h : ME X E e fa) : MI X E tg e (iL fa) := by
  obtain ⟨t, p, q⟩ := h.ex
  refine ⟨_, pi_list p, fun sl σ w R o s h => ?_⟩
  refine q sl σ w _ o s (post_bnd h fun v d w1 o1 s1 r hp => ?_)
  cases hd : seqOf d with
  | none => rw [hd] at hp; exact hp.elim
  | some ds =>
    rw [hd] at hp
    obtain ⟨a, xs, rfl, h1, rs⟩ := seqOf_rep r hd
    exact ⟨a, rfl, ⟨xs, sub_sqL o1 h1⟩, post_ret (rp := fun w J ds => SeqIt X.K w J ds) o1 (seq_list h1 rs) hp⟩
def iT (f : FE) : FA := fun sl st => bnd (f sl st) fun d st => match d with
  | .tup ds => ret ds st
  | _ => none
theorem seq_tup {w : Ws} {a : Addr} {xs : List V} {ds : List D} (h : w.F a = some (.tup xs)) (r : Reps K w.F w.al xs ds) : SeqIt K w (Itt K a) ds := fun w' o s => by
  have h' : SqT K w'.H a xs := SqT.of (o.sub _ _ (s.le.tup _ _ h))
  refine ⟨⟨xs, h', Nat.le_of_eq r.length⟩, fun i d e => ?_⟩
  obtain ⟨v, e1, e2⟩ := r.get e
  refine ⟨⟨xs, v, h', e1⟩, fun x H' hy => ?_⟩
  obtain ⟨rfl, hx⟩ := hy
  have ex : x = v := Option.some.inj ((hx xs h').symm.trans e1)
  subst ex
  exact ⟨w', rfl, rfl, o, Step.refl _, e2.mono s.le s.pre⟩
theorem mi_tup (h : ME X E e fa) : MI X E tg e (iT fa) := by
  obtain ⟨t, p, q⟩ := h.ex
  refine ⟨_, pi_tup p, fun sl σ w R o s h => ?_⟩
  refine q sl σ w _ o s (post_bnd h fun v d w1 o1 s1 r hp => ?_)
  cases d with
  | tup ds =>
    obtain ⟨a, xs, rfl, f, rs⟩ := r.tup_inv
    exact ⟨a, rfl, ⟨xs, SqT.of (o1.sub _ _ f)⟩, post_ret (rp := fun w J ds => SeqIt X.K w J ds) o1 (seq_tup f rs) hp⟩
  | _ => exact hp.elim
def rngD (lo : Int) (n : Nat) : List D := (List.range n).map fun (i : Nat) => .int (lo + i)
theorem seq_rng {w : Ws} (lo : Int) (n : Nat) : SeqIt K w (Itr lo n) (rngD lo n) := fun w' o s => by
  have el : (rngD lo n).length = n := by unfold rngD; rw [List.length_map, List.length_range]
  refine ⟨by rw [el]; exact Nat.le_refl _, fun i d e => ?_⟩
  unfold rngD at e
  rw [List.getElem?_map] at e
  have hi : i < n := by
    by_cases z : i < n
    · exact z
    · rw [List.getElem?_eq_none (by rw [List.length_range]; omega)] at e; cases e
  rw [List.getElem?_range hi] at e
  cases e
  refine ⟨hi, fun x H' hy => ?_⟩
  obtain ⟨rfl, rfl⟩ := hy
  exact ⟨w', rfl, rfl, o, Step.refl _, .int _⟩
def iR1 (f : FA) : FA := fun sl st => bnd (f sl st) fun ds st => match ds with
  | [.int j] => if -(2 ^ 62) ≤ j ∧ j < 2 ^ 62 then ret (rngD 0 j.toNat) st else none
  | _ => none
def iR2 (f : FA) : FA := fun sl st => bnd (f sl st) fun ds st => match ds with
  | [.int i, .int j] => if -(2 ^ 62) ≤ i ∧ i < 2 ^ 62 ∧ -(2 ^ 62) ≤ j ∧ j < 2 ^ 62 then ret (rngD i (j - i).toNat) st else none
  | _ => none
theorem mi_range1 {p : Pos} (ha : MA X E [a] fs) (hm : X.mg "range" = none) (hg : Gl X "range" := by rfl) (hs : starEach [a] X.env = [(false, eval a X.env)] := by rfl) : MI X E tg (.Call (.Name "range" p) [a] [] pos) (iR1 fs) := by
  obtain ⟨t, p, q⟩ := ha.ex
  refine ⟨_, pi_range1 hg hm p hs, fun sl σ w R o s h => ?_⟩
  refine q sl σ w _ o s (post_bnd h fun vs ds w1 o1 s1 r hp => ?_)
  split at hp
  · rename_i j
    obtain ⟨x, rfl, rx⟩ := r.one_inv
    obtain ⟨hc, hp⟩ := post_ite (p := -(2 ^ 62) ≤ j ∧ j < 2 ^ 62) hp
    exact ⟨j, by rw [rx.int_inv], hc.1, hc.2, post_ret (rp := fun w J ds => SeqIt X.K w J ds) o1 (seq_rng _ _) hp⟩
  · exact hp.elim
theorem mi_range2 {p : Pos} (ha : MA X E [a, b] fs) (hm : X.mg "range" = none) (hg : Gl X "range" := by rfl) (hs : starEach [a, b] X.env = [(false, eval a X.env), (false, eval b X.env)] := by rfl) (hs2 : starEach [b] X.env = [(false, eval b X.env)] := by rfl) : MI X E tg (.Call (.Name "range" p) [a, b] [] pos) (iR2 fs) := by
  obtain ⟨t, p, q⟩ := ha.ex
  refine ⟨_, pi_range2 hg hm p hs hs2, fun sl σ w R o s h => ?_⟩
  refine q sl σ w _ o s (post_bnd h fun vs ds w1 o1 s1 r hp => ?_)
  split at hp
  · rename_i i j
    obtain ⟨x, y, rfl, rx, ry⟩ := r.two_inv
    obtain ⟨hc, hp⟩ := post_ite (p := -(2 ^ 62) ≤ i ∧ i < 2 ^ 62 ∧ -(2 ^ 62) ≤ j ∧ j < 2 ^ 62) hp
    exact ⟨i, j, by rw [rx.int_inv, ry.int_inv], hc, post_ret (rp := fun w J ds => SeqIt X.K w J ds) o1 (seq_rng _ _) hp⟩
  · exact hp.elim
def chrD (x : Str) : List D := x.cps.toList.map fun c => .str ⟨#[c]⟩
theorem seq_str {w : Ws} (x : Str) : SeqIt K w (Its x) (chrD x) := fun w' o s => by
  have el : (chrD x).length = x.cps.size := by unfold chrD; rw [List.length_map]; rfl
  refine ⟨by rw [el]; exact Nat.le_refl _, fun i d e => ?_⟩
  unfold chrD at e
  rw [List.getElem?_map] at e
  cases q : x.cps.toList[i]? with
  | none => rw [q] at e; cases e
  | some c =>
    rw [q] at e; cases e
    have hi : i < x.cps.size := by
      have := (List.getElem?_eq_some_iff.mp q).1
      rwa [Array.length_toList] at this
    refine ⟨hi, fun v H' hy => ?_⟩
    obtain ⟨rfl, c', hc, rfl⟩ := hy
    rw [← Array.getElem?_toList, q] at hc
    cases hc
    exact ⟨w', rfl, rfl, o, Step.refl _, .str _⟩
def iS (f : FE) : FA := fun sl st => bnd (f sl st) fun d st => match d with
  | .str x => ret (chrD x) st
  | _ => none
theorem mi_str (h : ME X E e fa) : MI X E tg e (iS fa) := by
  obtain ⟨t, p, q⟩ := h.ex
  refine ⟨_, pi_str p, fun sl σ w R o s h => ?_⟩
  refine q sl σ w _ o s (post_bnd h fun v d w1 o1 s1 r hp => ?_)
  cases d with
  | str x => exact ⟨x, r.str_inv, post_ret (rp := fun w J ds => SeqIt X.K w J ds) o1 (seq_str x) hp⟩
  | _ => exact hp.elim
/-- pairs of an index and an item -/
def enumD (ds : List D) : List D := ds.zipIdx.map fun p => .tup [.int p.2, p.1]
theorem seq_enum {w : Ws} {a : Addr} {xs : List V} {ds : List D} (h : SqL K w.F a xs) (r : Reps K w.F w.al xs ds) : SeqIt K w (Ite K a) (enumD ds) := fun w' o s => by
  have h' := s.sqL o h
  have el : (enumD ds).length = ds.length := by unfold enumD; rw [List.length_map, List.length_zipIdx]
  refine ⟨⟨xs, h', by rw [el]; exact Nat.le_of_eq r.length⟩, fun i d e => ?_⟩
  unfold enumD at e
  rw [List.getElem?_map, List.getElem?_zipIdx] at e
  cases q : ds[i]? with
  | none => rw [q] at e; cases e
  | some d0 =>
    rw [q] at e
    simp only [Option.map_some, Option.some.injEq] at e
    subst e
    obtain ⟨v, e1, e2⟩ := r.get q
    refine ⟨⟨xs, v, h', e1⟩, fun x H' hy => ?_⟩
    obtain ⟨T, y, rfl, nT, rfl, hx⟩ := hy
    have ex : y = v := Option.some.inj ((hx xs h').symm.trans e1)
    subst ex
    have s2 := step_newV o nT (.tup [.int (i : Nat), y])
    refine ⟨w'.newV T (.tup [.int (i : Nat), y]), rfl, rfl, ok_newV o nT _, s2, .tup (show upd w'.F T _ T = _ from upd_same) (.cons ?_ (.cons ((e2.mono s.le s.pre).mono s2.le s2.pre) .nil))⟩
    rw [Nat.zero_add]
    exact .int _
def iE (f : FA) : FA := fun sl st => bnd (f sl st) fun ds st => match ds with
  | [d] => match seqOf d with
    | some ds => ret (enumD ds) st
    | none => none
  | _ => none
theorem mi_enum {elts : List Expr} {kk : Nat} {tpos p : Pos} (ha : MA X E [e] fs) (hm : X.mg "enumerate" = none) (hg : Gl X "enumerate" := by rfl) (hs : starEach [e] X.env = [(false, eval e X.env)] := by rfl) : MI X E (.Tuple elts kk tpos) (.Call (.Name "enumerate" p) [e] [] pos) (iE fs) := by
  obtain ⟨t, p, q⟩ := ha.ex
  refine ⟨_, pi_enum hg hm p hs, fun sl σ w R o s h => ?_⟩
  refine q sl σ w _ o s (post_bnd h fun vs ds w1 o1 s1 r hp => ?_)
  split at hp
  · rename_i d
    obtain ⟨x, rfl, rx⟩ := r.one_inv
    cases hd : seqOf d with
    | none => rw [hd] at hp; exact hp.elim
    | some ds =>
      rw [hd] at hp
      obtain ⟨a, xs, rfl, h1, rs⟩ := seqOf_rep rx hd
      exact ⟨a, xs, rfl, sub_sqL o1 h1, post_ret (rp := fun w J ds => SeqIt X.K w J ds) o1 (seq_enum h1 rs) hp⟩
  · exact hp.elim
end
end M

namespace M
open PySem PySem.Spec PyProof.Rows L2
/-! ### data without cells -/
mutual
def pf : D → Bool
  | .tup ds => pfs ds
  | .lst ds => pfs ds
  | .dct kvs => pfk kvs
  | .dcT kvs => pft kvs
  | .ptr _ => false
  | .non => true
  | .bl _ => true
  | .int _ => true
  | .str _ => true
  | .scr _ => true
def pfs : List D → Bool
  | [] => true
  | d :: r => pf d && pfs r
def pfk : List (Key × D) → Bool
  | [] => true
  | (_, d) :: r => pf d && pfk r
def pft : List (List Key × D) → Bool
  | [] => true
  | (_, d) :: r => pf d && pft r
end
theorem pfk_eq : ∀ kvs : List (Key × D), pfk kvs = pfs (kvs.map (·.2))
  | [] => by simp [pfk, pfs]
  | (_, d) :: r => by simp [pfk, pfs, pfk_eq r]
theorem pft_eq : ∀ kvs : List (List Key × D), pft kvs = pfs (kvs.map (·.2))
  | [] => by simp [pft, pfs]
  | (_, d) :: r => by simp [pft, pfs, pft_eq r]
section
variable {K : PySem.W.Frag} {F : Hp} {α β : List Addr}
mutual
theorem Rep.any : ∀ {v : V} {d : D}, Rep K F α v d → pf d = true → Rep K F β v d
  | _, _, .non, _ => .non
  | _, _, .bl b, _ => .bl b
  | _, _, .int i, _ => .int i
  | _, _, .str s, _ => .str s
  | _, _, .tup h r, p => .tup h (Reps.any r (by rw [pf] at p; exact p))
  | _, _, .lst h r, p => .lst h (Reps.any r (by rw [pf] at p; exact p))
  | _, _, .dct h e r, p => .dct h e (Reps.any r (by rw [pf, pfk_eq] at p; exact p))
  | _, _, .dcT h e r, p => .dcT h e (Reps.any r (by rw [pf, pft_eq] at p; exact p))
  | _, _, .ptr h, p => by rw [pf] at p; exact absurd p Bool.false_ne_true
  | _, _, .scr h, _ => .scr h
theorem Reps.any : ∀ {vs : List V} {ds : List D}, Reps K F α vs ds → pfs ds = true → Reps K F β vs ds
  | _, _, .nil, _ => .nil
  | _, _, .cons h r, p => by
    rw [pfs, Bool.and_eq_true] at p
    exact .cons (Rep.any h p.1) (Reps.any r p.2)
end
end
def pfC : Cell → Bool
  | .lst ds => pfs ds
  | .dct kvs => pfk kvs
  | .dcT kvs => pft kvs
  | .ins _ fs => pfs (fs.map (·.2))
theorem CellAt.any {K : PySem.W.Frag} {F H : Hp} {α β : List Addr} {a : Addr} {c : Cell} (h : CellAt K F α H a c) (p : pfC c = true) : CellAt K F β H a c := by
  cases h with
  | lst h r => exact .lst h (r.any p)
  | dct h e r => exact .dct h e (r.any (by rw [pfC, pfk_eq] at p; exact p))
  | dcT h e r => exact .dcT h e (r.any (by rw [pfC, pft_eq] at p; exact p))
  | ins h e r => exact .ins h e (r.any p)
/-! ### a def's promise, by a plain function -/
def spM (K : PySem.W.Frag) (n : Nat) (m : List D → Sto → MM D) : Sp := fun vs H Q E => ∃ w ds, w.H = H ∧ Ok K w ∧ Reps K w.F w.al vs ds ∧ ds.length = n ∧ Post K E (rD K) w (m ds w.st) Q
theorem spM_len {K : PySem.W.Frag} {n : Nat} {m : List D → Sto → MM D} {vs : List V} {H : Hp} {Q : VK} {E : XK} (h : spM K n m vs H Q E) : vs.length = n := by
  obtain ⟨w, ds, _, _, r, e, _⟩ := h
  rw [r.length]; exact e
/-- how a caller may call it -/
def CallF (K : PySem.W.Frag) (E : XK) (n : Nat) (m c : List D → Sto → MM D) : Prop := ∀ w vs ds (Q : VK), Ok K w → Reps K w.F w.al vs ds → Post K E (rD K) w (c ds w.st) Q → spM K n m vs w.H Q E
def callA (n : Nat) (m : List D → Sto → MM D) : List D → Sto → MM D := fun ds st => if ds.length = n then m ds st else none
theorem callf_A {K : PySem.W.Frag} {E : XK} {n : Nat} {m : List D → Sto → MM D} : CallF K E n m (callA n m) := fun w vs ds Q o r h => by
  obtain ⟨e, h⟩ := post_ite h
  exact ⟨w, ds, rfl, o, r, e, h⟩
section
variable {K : PySem.W.Frag} {w wc w' : Ws}
/-- a part of the world was handed on, and came back -/
theorem core (o : Ok K w) (hF : wc.F = w.F) (hH : wc.H = w.H) (hsub : ∀ b, Own wc b → Own w b) (o' : Ok K w') (s : Step wc w') (st2 : Sto) (hlen : st2.length = w.st.length) (hlive : ∀ j, Live st2 j → Live w.st j)
    (hin : ∀ (j : Nat) b c, st2[j]? = some (some c) → w.al[j]? = some b → Own wc b → w'.F b = none ∧ CellAt K w'.F w.al w'.H b c) (hout : ∀ (j : Nat) b c, st2[j]? = some (some c) → w.al[j]? = some b → ¬ Own wc b → w.st[j]? = some (some c)) :
    Ok K ⟨st2, w.al, w'.F, w'.H⟩ ∧ Step w ⟨st2, w.al, w'.F, w'.H⟩ := by
  have hle : Le w.F w'.F := by rw [← hF]; exact s.le
  have fr : ∀ b x, w.H b = some x → ¬ Own wc b → w'.H b = some x := fun b x e n => s.frame b x (by rw [hH]; exact e) n
  have ol : ∀ b, w.H b ≠ none → (∀ xs, w.H b ≠ some (.tup xs)) → ¬ Own wc b → w'.F b = w.F b := fun b e t n => (s.old b (by rw [hH]; exact e) (by rw [hH]; exact t) n).trans (by rw [hF])
  refine ⟨⟨o.len.trans hlen.symm, o'.sub, fun j c h => ?_, fun i j a li lj => o.inj i j a (hlive i li) (hlive j lj)⟩, ⟨Pre.refl _, hle, fun b x e n => fr b x e fun z => n (hsub b z), fun b e t n => ol b e t fun z => n (hsub b z), fun b e => s.there b (by rw [hH]; exact e), fun b ⟨i, li, e⟩ => .inl ⟨i, hlive i li, e⟩⟩⟩
  obtain ⟨cj, hj⟩ := hlive j ⟨c, h⟩
  obtain ⟨b, eb, fb, cb⟩ := o.own j cj hj
  by_cases z : Own wc b
  · obtain ⟨h1, h2⟩ := hin j b c h eb z
    exact ⟨b, eb, h1, h2⟩
  · have q := hout j b c h eb z
    rw [q] at hj; cases hj
    refine ⟨b, eb, (ol b cb.some cb.notTup z).trans fb, cb.mono hle (Pre.refl _) ?_⟩
    cases r : w.H b with
    | none => exact absurd r cb.some
    | some x => exact fr b x r z
theorem adopt (o : Ok K w) {b : Addr} {c : Cell} (hb : ¬ Own w b) (hF : w.F b = none) (hc : CellAt K w.F (w.al ++ [b]) w.H b c) : Ok K ⟨w.st ++ [some c], w.al ++ [b], w.F, w.H⟩ := by
  have old : ∀ (i : Nat) a, Live w.st i → (w.al ++ [b])[i]? = some a → w.al[i]? = some a := fun i a l e => by
    rw [List.getElem?_append_left (by rw [o.len]; exact l.lt)] at e; exact e
  have new : ∀ (i : Nat) a, i = w.st.length → (w.al ++ [b])[i]? = some a → a = b := fun i a l e => by
    rw [List.getElem?_append_right (by rw [o.len, l]; exact Nat.le_refl _), o.len, l, Nat.sub_self] at e
    cases e; rfl
  refine ⟨?_, o.sub, fun i d h => ?_, fun i j a li lj ei ej => ?_⟩
  · show (w.al ++ [b]).length = (w.st ++ [some c]).length
    rw [List.length_append, List.length_append, o.len]; rfl
  · have h' : (w.st ++ [some c])[i]? = some (some d) := h
    by_cases z : i < w.st.length
    · rw [List.getElem?_append_left z] at h'
      obtain ⟨a, e, f, ca⟩ := o.own i d h'
      exact ⟨a, Pre.app _ _ _ _ e, f, ca.mono (Le.refl _) (Pre.app _ _) rfl⟩
    · have q := (List.getElem?_eq_some_iff.mp h').1
      rw [List.length_append, List.length_singleton] at q
      have ei : i = w.st.length := by omega
      subst ei
      rw [List.getElem?_append_right (Nat.le_refl _), Nat.sub_self] at h'
      cases h'
      refine ⟨b, ?_, hF, hc⟩
      show (w.al ++ [b])[w.st.length]? = some b
      rw [List.getElem?_append_right (by rw [o.len]; exact Nat.le_refl _), o.len, Nat.sub_self]; rfl
  · rcases live_app li with zi | zi <;> rcases live_app lj with zj | zj
    · exact o.inj i j a zi zj (old i a zi ei) (old j a zj ej)
    · exact absurd ⟨i, zi, by rw [← new j a zj ej]; exact old i a zi ei⟩ hb
    · exact absurd ⟨j, zj, by rw [← new i a zi ei]; exact old j a zj ej⟩ hb
    · rw [zi, zj]
theorem step_adopt {w1 : Ws} (s : Step w w1) {b : Addr} {c : Cell} (len : w1.al.length = w1.st.length) (hb : w.H b = none) : Step w ⟨w1.st ++ [some c], w1.al ++ [b], w1.F, w1.H⟩ := by
  refine ⟨s.pre.trans (Pre.app _ _), s.le, s.frame, s.old, s.there, fun x ⟨i, l, e⟩ => ?_⟩
  have e' : (w1.al ++ [b])[i]? = some x := e
  rcases live_app l with z | z
  · rw [List.getElem?_append_left (by rw [len]; exact z.lt)] at e'
    exact s.news x ⟨i, z, e'⟩
  · rw [List.getElem?_append_right (by rw [len, z]; exact Nat.le_refl _), len, z, Nat.sub_self] at e'
    cases e'
    exact .inr hb
end
/-- what is handed back: plain data, or one new cell -/
def outB (d : D) (cs : Sto) (k : Nat) (st : Sto) : MM D := if pf d = true then ret d st else match d with
  | .ptr j => if k ≤ j then (match cs[j]? with
    | some (some c) => if pfC c = true then ret (.ptr st.length) (st ++ [some c]) else none
    | _ => none) else none
  | _ => none
def pfX (e : Exn) : Bool := pfs (e.fs.map (·.2))
def back0 (st : Sto) (m : MM D) : MM D := match m with
  | some (.ok d cs) => outB d cs 0 st
  | some (.exc e _) => if pfX e = true then some (.exc e st) else none
  | none => none
def back1 (i : Nat) (st : Sto) (m : MM D) : MM D := match m with
  | some (.ok d (some c :: cs)) => if pfC c = true then outB d (some c :: cs) 1 (st.set i (some c)) else none
  | some (.exc e (some c :: _)) => if pfC c = true ∧ pfX e = true then some (.exc e (st.set i (some c))) else none
  | _ => none
def callB (n : Nat) (m : List D → Sto → MM D) : List D → Sto → MM D := fun ds st => if ds.length = n then (match ds with
  | .ptr i :: r => (match st[i]? with
    | some (some c) => if pfs r = true ∧ pfC c = true then back1 i st (m (.ptr 0 :: r) [some c]) else none
    | _ => none)
  | ds => if pfs ds = true then back0 st (m ds []) else none) else none
section
variable {K : PySem.W.Frag} {E : XK} {w wc w' : Ws} {Q : VK}
/-- the value handed back, over the caller's world w1 -/
theorem post_out {d : D} {cs : Sto} {k : Nat} {w1 : Ws} {v : V} (h : Post K E (rD K) w (outB d cs k w1.st) Q) (o1 : Ok K w1) (s1 : Step w w1) (o' : Ok K w') (e' : w'.st = cs) (hF : w1.F = w'.F) (hH : w1.H = w'.H) (r : Rep K w'.F w'.al v d)
    (hn : ∀ (j : Nat) b, k ≤ j → Live w'.st j → w'.al[j]? = some b → w.H b = none ∧ ¬ Own w1 b) : Q v w'.H := by
  unfold outB at h
  by_cases p : pf d = true
  · rw [if_pos p] at h
    have q := h v w1 rfl o1 s1 (show Rep K w1.F w1.al v d by rw [hF]; exact r.any p)
    rw [hH] at q; exact q
  · rw [if_neg p] at h
    cases d with
    | ptr j =>
      obtain ⟨hk, h⟩ := post_ite h
      cases q : cs[j]? with
      | none => simp only [q] at h; exact h.elim
      | some oc =>
        cases oc with
        | none => simp only [q] at h; exact h.elim
        | some c =>
          simp only [q] at h
          obtain ⟨hc, h⟩ := post_ite h
          have q' : w'.st[j]? = some (some c) := by rw [e']; exact q
          obtain ⟨b, rfl, eb, fb, cb⟩ := cell_at o' r q'
          obtain ⟨nb, ob⟩ := hn j b hk ⟨c, q'⟩ eb
          have oo : Ok K ⟨w1.st ++ [some c], w1.al ++ [b], w1.F, w1.H⟩ := adopt o1 ob (by rw [hF]; exact fb) (by rw [hF, hH]; exact cb.any hc)
          have z := h (.ref b) _ rfl oo (step_adopt s1 o1.len nb) (.ptr (by
            show (w1.al ++ [b])[w1.st.length]? = some b
            rw [List.getElem?_append_right (by rw [o1.len]; exact Nat.le_refl _), o1.len, Nat.sub_self]; rfl))
          rw [← hH]; exact z
    | _ => exact h.elim
theorem RepX.to {e : Exn} {dd : Option Addr} {w1 : Ws} (hF : w1.F = w'.F) (hH : w1.H = w'.H) (p : pfX e = true) (r : RepX K w' e dd) : RepX K w1 e dd := by
  cases dd with
  | none => exact r
  | some d =>
    obtain ⟨vs, h1, h2, h3, h4⟩ := r
    exact ⟨vs, by rw [hH]; exact h1, by rw [hF]; exact h2, h3, by rw [hF]; exact h4.any p⟩
theorem callf_B {n : Nat} {m : List D → Sto → MM D} : CallF K E n m (callB n m) := fun w vs ds Q o r h => by
  obtain ⟨en, h⟩ := post_ite h
  have plain : (∀ i r, ds ≠ .ptr i :: r) → Post K E (rD K) w (if pfs ds = true then back0 w.st (m ds []) else none) Q → spM K n m vs w.H Q E := fun _ h => by
    obtain ⟨p, h⟩ := post_ite h
    refine ⟨⟨[], [], w.F, w.H⟩, ds, rfl, ⟨rfl, o.sub, fun i c z => by simp at z, fun i j a ⟨c, z⟩ => by simp at z⟩, r.any p, en, ?_⟩
    have nown : ∀ b, ¬ Own ⟨[], [], w.F, w.H⟩ b := fun b ⟨i, ⟨c, z⟩, _⟩ => by simp at z
    have co : ∀ w', Ok K w' → Step ⟨[], [], w.F, w.H⟩ w' → Ok K ⟨w.st, w.al, w'.F, w'.H⟩ ∧ Step w ⟨w.st, w.al, w'.F, w'.H⟩ := fun w' o' s =>
      core (wc := ⟨[], [], w.F, w.H⟩) o rfl rfl (fun b z => absurd z (nown b)) o' s w.st rfl (fun j l => l) (fun j b c _ _ z => absurd z (nown b)) (fun j b c z _ _ => z)
    match hm : m ds [], h with
    | none, h => exact h.elim
    | some (.ok d cs), h =>
      intro v w' e' o' s r'
      obtain ⟨o1, s1⟩ := co w' o' s
      refine post_out (w1 := ⟨w.st, w.al, w'.F, w'.H⟩) h o1 s1 o' e' rfl rfl r' fun j b _ l eb => ?_
      have hb : w.H b = none := (s.news b ⟨j, l, eb⟩).elim (fun z => absurd z (nown b)) id
      exact ⟨hb, fun ⟨i, li, ei⟩ => (o.own_H ⟨i, li, ei⟩).1 hb⟩
    | some (.exc x cs), h =>
      obtain ⟨px, h⟩ := post_ite (m := some (.exc x w.st)) h
      intro dd w' e' o' s rx
      obtain ⟨o1, s1⟩ := co w' o' s
      have z := h dd ⟨w.st, w.al, w'.F, w'.H⟩ rfl o1 s1 (RepX.to (w' := w') rfl rfl px rx)
      exact z
  match ds, plain with
  | [], plain => exact plain (fun _ _ z => nomatch z) h
  | .ptr i :: r0, _ =>
    have h : Post K E (rD K) w (match w.st[i]? with
      | some (some c) => if pfs r0 = true ∧ pfC c = true then back1 i w.st (m (.ptr 0 :: r0) [some c]) else none
      | _ => none) Q := h
    cases q : w.st[i]? with
    | none => simp only [q] at h; exact h.elim
    | some oc =>
      cases oc with
      | none => simp only [q] at h; exact h.elim
      | some c =>
        simp only [q] at h
        obtain ⟨⟨p1, p2⟩, h⟩ := post_ite h
        cases r with
        | cons rv rr =>
          obtain ⟨a, rfl, ea, fa, ca⟩ := cell_at o rv q
          have li : Live w.st i := ⟨c, q⟩
          have ow : ∀ b, Own ⟨[some c], [a], w.F, w.H⟩ b → b = a := fun b ⟨j, ⟨x, z⟩, e⟩ => by
            cases j with
            | zero => exact (Option.some.inj e).symm
            | succ j => simp at z
          have owa : Own ⟨[some c], [a], w.F, w.H⟩ a := ⟨0, ⟨c, rfl⟩, rfl⟩
          refine ⟨⟨[some c], [a], w.F, w.H⟩, .ptr 0 :: r0, rfl, ⟨rfl, o.sub, fun j x z => ?_, fun j k b lj lk _ _ => ?_⟩, .cons (.ptr rfl) (rr.any p1), en, ?_⟩
          · cases j with
            | zero =>
              have ex : c = x := by simpa using z
              subst ex
              exact ⟨a, rfl, fa, ca.any p2⟩
            | succ j => simp at z
          · have hj := lj.lt
            have hk := lk.lt
            simp at hj hk
            omega
          have co : ∀ w' c' cs, w'.st = some c' :: cs → pfC c' = true → Ok K w' → Step ⟨[some c], [a], w.F, w.H⟩ w' → Ok K ⟨w.st.set i (some c'), w.al, w'.F, w'.H⟩ ∧ Step w ⟨w.st.set i (some c'), w.al, w'.F, w'.H⟩ := fun w' c' cs e' pc o' s => by
            refine core (wc := ⟨[some c], [a], w.F, w.H⟩) o rfl rfl (fun b z => by rw [ow b z]; exact ⟨i, li, ea⟩) o' s _ (by rw [List.length_set]) (fun j l => live_set li l) (fun j b x z eb ob => ?_) (fun j b x z eb ob => ?_)
            · have eab := ow b ob
              subst eab
              have ej : i = j := by
                obtain ⟨cj, hj⟩ := live_set li ⟨x, z⟩
                exact o.inj i j b li ⟨cj, hj⟩ ea eb
              subst ej
              rw [List.getElem?_set_self li.lt] at z
              cases z
              obtain ⟨b', eb', fb', cb'⟩ := o'.own 0 c' (by rw [e']; rfl)
              have : b' = b := Option.some.inj (eb'.symm.trans (s.pre 0 b rfl))
              subst this
              exact ⟨fb', cb'.any pc⟩
            · have nij : i ≠ j := fun e => by
                subst e
                rw [ea] at eb; cases eb
                exact ob owa
              rw [List.getElem?_set_ne nij] at z
              exact z
          match hm : m (.ptr 0 :: r0) [some c], h with
          | none, h => exact h.elim
          | some (.ok d []), h => exact h.elim
          | some (.ok d (none :: cs)), h => exact h.elim
          | some (.ok d (some c' :: cs)), h =>
            obtain ⟨pc, h⟩ := post_ite (m := outB d (some c' :: cs) 1 (w.st.set i (some c'))) h
            intro v w' e' o' s r'
            obtain ⟨o1, s1⟩ := co w' c' cs e' pc o' s
            refine post_out (w1 := ⟨w.st.set i (some c'), w.al, w'.F, w'.H⟩) h o1 s1 o' e' rfl rfl r' fun j b hj l eb => ?_
            have nba : b ≠ a := fun e => by
              subst e
              have := o'.inj j 0 b l ⟨c', by rw [e']; rfl⟩ eb (s.pre 0 b rfl)
              omega
            have hb : w.H b = none := (s.news b ⟨j, l, eb⟩).elim (fun z => absurd (ow b z) nba) id
            exact ⟨hb, fun ⟨k, lk, ek⟩ => (o.own_H ⟨k, live_set li lk, ek⟩).1 hb⟩
          | some (.exc x []), h => exact h.elim
          | some (.exc x (none :: cs)), h => exact h.elim
          | some (.exc x (some c' :: cs)), h =>
            obtain ⟨⟨pc, px⟩, h⟩ := post_ite (m := some (.exc x (w.st.set i (some c')))) h
            intro dd w' e' o' s rx
            obtain ⟨o1, s1⟩ := co w' c' cs e' pc o' s
            have z := h dd ⟨w.st.set i (some c'), w.al, w'.F, w'.H⟩ rfl o1 s1 (RepX.to (w' := w') rfl rfl px rx)
            exact z
  | .non :: r0, plain => exact plain (fun _ _ z => nomatch z) h
  | .bl _ :: r0, plain => exact plain (fun _ _ z => nomatch z) h
  | .int _ :: r0, plain => exact plain (fun _ _ z => nomatch z) h
  | .str _ :: r0, plain => exact plain (fun _ _ z => nomatch z) h
  | .tup _ :: r0, plain => exact plain (fun _ _ z => nomatch z) h
  | .lst _ :: r0, plain => exact plain (fun _ _ z => nomatch z) h
  | .dct _ :: r0, plain => exact plain (fun _ _ z => nomatch z) h
  | .dcT _ :: r0, plain => exact plain (fun _ _ z => nomatch z) h
  | .scr _ :: r0, plain => exact plain (fun _ _ z => nomatch z) h
end
/-! ### calling a def -/
def mCall (c : List D → Sto → MM D) (f : FA) : FE := fun sl st => bnd (f sl st) fun ds st => c ds st
theorem me_call {X : Cx} {E : XK} {CX : CXT} {k n : Nat} {f : Addr} {fd : FuncData} {ps : List Str} {m c : List D → Sto → MM D} {fs : FA} {x : Str} {p pos : Pos} {e : Expr} {es : List Expr} (F : FnOk X.prog X.w X.K X.mg X.base CX k f fd ps (spM X.K n m)) (hc : CallF X.K E n m c) (hr : Room k X.A) (hm : X.mg x = some (.ref f))
    (hk : PySem.W.keepIn X.K (.ref f) = true) (hb : Binds X.K fd ps []) (hx : Passes CX X E) (ha : MA X E (e :: es) fs) (hg : Gl X x := by rfl) (hdb : (x == ("__debug__" : Str)) = false := by decide) (he : starEach (e :: es) X.env = (false, eval e X.env) :: starEach es X.env := by rfl)
    (hpl : (backTo pos (starEach es X.env)).any (·.1) = false := by rfl) : ME X E (.Call (.Name x p) (e :: es) [] pos) (mCall c fs) := by
  obtain ⟨t, p, q⟩ := ha.ex
  refine ⟨_, pe_call F hr hg hm hk hb .nil hx p hdb he hpl, fun sl σ w Q o s h => ?_⟩
  refine q sl σ w _ o s (post_bnd h fun vs ds w1 o1 s1 r hp => ?_)
  rw [List.append_nil]
  exact hc w1 vs ds Q o1 r hp
/-! ### a def by its body -/
def mDef (N n : Nat) (body : FS) : List D → Sto → MM D := fun ds st => bnd (body (ds.map some ++ List.replicate (N - n) none) st) fun f st => match f with
  | .nx _ => ret .non st
  | .rt d => ret d st
  | _ => none
theorem slots_start {K : PySem.W.Frag} {w : Ws} {N : List Str} {vs : List V} {ds : List D} (r : Reps K w.F w.al vs ds) : Slots K w (ds.map some ++ List.replicate (N.length - ds.length) none) (L2.start N vs) := by
  unfold L2.start
  rw [r.length]
  refine ⟨by simp [r.length], fun i d h => ?_⟩
  by_cases z : i < ds.length
  · rw [List.getElem?_append_left (by simpa using z), List.getElem?_map] at h
    cases q : ds[i]? with
    | none => rw [q] at h; cases h
    | some e =>
      rw [q] at h; cases h
      obtain ⟨v, e1, e2⟩ := r.get q
      refine ⟨v, ?_, e2⟩
      rw [List.getElem?_append_left (by simpa [r.length] using z), List.getElem?_map, e1]; rfl
  · rw [List.getElem?_append_right (by simpa using Nat.le_of_not_lt z), List.getElem?_replicate] at h
    split at h <;> cases h
theorem post_def {K : PySem.W.Frag} {E : XK} {t : TS} {g : FS} {N : List Str} {n : Nat} {vs : List V} {H : Hp} {Q : VK} (h : RefS K E t g) (hs : spM K n (mDef N.length n g) vs H Q E) : t { nx := fun _ H' => Q .non H', rt := Q } (L2.start N vs) H := by
  obtain ⟨w, ds, rfl, o, r, e, hp⟩ := hs
  subst e
  refine h _ _ w _ o (slots_start r) ?_
  unfold mDef at hp
  match hm : g (ds.map some ++ List.replicate (N.length - ds.length) none) w.st, hp with
  | none, hp => exact hp.elim
  | some (.ok (.nx sl) st), hp => exact fun w' e o' s σ _ => hp .non w' e o' s .non
  | some (.ok (.rt d) st), hp => exact fun w' e o' s v r => hp v w' e o' s r
  | some (.ok (.bk d) st), hp => exact hp.elim
  | some (.ok (.ct d) st), hp => exact hp.elim
  | some (.exc x st), hp => exact hp
/-- THE RULE for a def that raises nothing -/
theorem fn_m {P : Program} {w : World} {K : PySem.W.Frag} {mg : Str → Option Value} {base : Heap} {x qual : Str} {st : Stmt} {f : Addr} {fd : FuncData} {N ps : List Str} {k : Nat} {g : FS} (F : Fun K x qual st f fd) (S : FnScope N ps (defScope st))
    (hb : ∀ (cdv : Value) (A : Around) (outer : List Env) (s : Shared) (H : Hp) (E E' : XK), Room k (A.deeper (envOfC qual (defScope st) s.heap.objs.size f cdv)) → MSs (cxOf CX0 P w K mg base N qual (defScope st) f cdv A outer s H E).nox E' (defBody st) g) :
    FnOk P w K mg base CX0 (k + 1) f fd ps (spM K ps.length (mDef N.length ps.length g)) := by
  refine F.ok S (fun vs H Q E h => spM_len h) (fun cdv A outer s H vs Q E hr h => ?_)
  obtain ⟨t, p, q⟩ := (hb cdv A outer s H E E hr).ex
  exact ⟨t, p, post_def q h⟩
end M

namespace M
open PySem L2
section
variable {X : Cx} {E : XK} {K : PySem.W.Frag} {a b c e o : Expr} {es rest : List Expr} {fa fb fc : FE} {fs : FA} {ta tb tc : TE} {ts : TA} {pos apos cpos : Pos} {T id : String} {name : Str}
def tyOk (T : String) (st : Sto) : D → Bool
  | .str _ => T == "str"
  | .int _ => T == "int"
  | d => T == "list" && (lstOf st d).isSome
theorem tyOk_rep {w : Ws} (o : Ok K w) {v : V} {d : D} (r : Rep K w.F w.al v d) (h : tyOk T w.st d = true) : tyV K T v w.H := by
  have viaL : (T == "list" && (lstOf w.st d).isSome) = true → tyV K T v w.H := fun z => by
    rw [Bool.and_eq_true] at z
    obtain ⟨z1, z2⟩ := z
    obtain ⟨ds, e⟩ := Option.isSome_iff_exists.mp z2
    obtain ⟨p, xs, rfl, hx, _⟩ := lstOf_rep o r e
    exact .inl ⟨eq_of_beq z1, xs, hx⟩
  cases d with
  | str s => cases r; exact eq_of_beq h
  | int i => cases r; exact eq_of_beq h
  | _ => exact viaL h
def mBM0 (T : String) (g : Sto → D → List D → MM D) (f : FE) : FE := fun sl st => bnd (f sl st) fun x st => if tyOk T st x = true then g st x [] else none
def mBM (T : String) (g : Sto → D → List D → MM D) (f : FE) (h : FA) : FE := fun sl st => bnd (f sl st) fun x st => if tyOk T st x = true then bnd (h sl st) fun ds st => g st x ds else none
def RfM (K : PySem.W.Frag) (E : XK) (r : V → List V → Hp → VK → Prop) (g : Sto → D → List D → MM D) : Prop := ∀ x dx xs ds w (Q : VK), Ok K w → Rep K w.F w.al x dx → Reps K w.F w.al xs ds → Post K E (rD K) w (g w.st dx ds) Q → r x xs w.H Q
theorem me_bm0 {r : V → List V → Hp → VK → Prop} {g : Sto → D → List D → MM D} (pa : PlainAttrs T) (slot : Slot T name id) (hty : typeOf (.builtin id) = pure (.type "method_descriptor")) (hm : MtR X id r) (hr : RfM X.K E r g) (ho : ME X E o fa)
    (hbase : attributeBase o name X.env (eval o X.env) = eval o X.env := by rfl) (hline : (apos.endLine == cpos.line) = true := by rfl) : ME X E (.Call (.Attribute o name apos) [] [] cpos) (mBM0 T g fa) := by
  obtain ⟨t, p, q⟩ := ho.ex
  refine ⟨_, pe_bm0 pa slot hty hm p hbase hline, fun sl σ w Q o s h => ?_⟩
  refine q sl σ w _ o s (post_bnd h fun v d w1 o1 s1 r1 hp => ?_)
  obtain ⟨ht, hp⟩ := post_ite hp
  exact ⟨tyOk_rep o1 r1 ht, hr v d [] [] w1 Q o1 r1 .nil hp⟩
theorem me_bm {r : V → List V → Hp → VK → Prop} {g : Sto → D → List D → MM D} (pa : PlainAttrs T) (slot : Slot T name id) (hty : typeOf (.builtin id) = pure (.type "method_descriptor")) (hm : MtR X id r) (hr : RfM X.K E r g) (ho : ME X E o fa) (ha : MA X E (e :: es) fs)
    (hbase : attributeBase o name X.env (eval o X.env) = eval o X.env := by rfl)
    (hfew : ((backTo cpos (starEach (e :: es) X.env)).all (fun x => !x.1) && (backToKw cpos (keywordEach [] X.env)).all (fun x => x.1.isSome)
      && decide ((e :: es).length + ([] : List Keyword).length + (if ([] : List Keyword).isEmpty then 0 else 1) < 30)) = true := by rfl)
    (hline : (apos.endLine == cpos.line) = true := by rfl) (hs : starEach (e :: es) X.env = (false, eval e X.env) :: starEach es X.env := by rfl) (hplain : (backTo cpos (starEach es X.env)).any (·.1) = false := by rfl) : ME X E (.Call (.Attribute o name apos) (e :: es) [] cpos) (mBM T g fa fs) := by
  obtain ⟨t, p, q⟩ := ho.ex
  obtain ⟨t', p', q'⟩ := ha.ex
  refine ⟨_, pe_bm pa slot hty hm p p' hbase hfew hline hs hplain, fun sl σ w Q o s h => ?_⟩
  refine q sl σ w _ o s (post_bnd h fun v d w1 o1 s1 r1 hp => ?_)
  obtain ⟨ht, hp⟩ := post_ite hp
  refine ⟨tyOk_rep o1 r1 ht, q' sl σ w1 _ o1 (s.step s1) (post_bnd hp fun vs ds w2 o2 s2 r2 hp2 => ?_)⟩
  exact hr v d vs ds w2 Q o2 (r1.mono s2.le s2.pre) r2 hp2
/-! ### lists as cells -/
/-- a cell's list becomes es, d is handed back -/
def putL (i : Nat) (es : List D) (d : D) (st : Sto) : MM D := ret d (st.set i (some (.lst es)))
theorem post_putL {w : Ws} {i : Nat} {es ds : List D} {d : D} {v : V} {Q : VK} {p : Addr} {xs : List V} (ok : Ok K w) (hi : w.st[i]? = some (some (.lst ds))) (hp : w.al[i]? = some p) (h : Post K E (rD K) w (putL i es d w.st) Q) (rv : Rep K w.F w.al v d) (rs : Reps K w.F w.al xs es) : Q v (upd w.H p (.lst xs)) := by
  have l : Live w.st i := ⟨_, hi⟩
  exact h v (w.put i p (.lst xs) (.lst es)) rfl (ok_put ok l hp (.lst upd_same rs)) (step_put ok l hp _ _) rv
theorem cell_lst {w : Ws} (o : Ok K w) {v : V} {i : Nat} {ds : List D} (r : Rep K w.F w.al v (.ptr i)) (h : cellL w.st i = some ds) : ∃ a xs, v = .ref a ∧ w.al[i]? = some a ∧ w.st[i]? = some (some (.lst ds)) ∧ w.H a = some (.lst xs) ∧ Reps K w.F w.al xs ds := by
  obtain ⟨a, e, ea, _, ca⟩ := cell_at o r (cellL_some h)
  cases ca with
  | lst hx rs => exact ⟨a, _, e, ea, cellL_some h, hx, rs⟩
def gAppend (st : Sto) (x : D) (as : List D) : MM D := match x, as with
  | .ptr i, [y] => match cellL st i with
    | some ds => if ds.length < sizeLine then putL i (ds ++ [y]) .non st else none
    | none => none
  | _, _ => none
theorem rf_append : RfM K E rAppend gAppend := fun x dx xs ds w Q o rx rs h => by
  unfold gAppend at h
  split at h
  · rename_i i y
    cases q : cellL w.st i with
    | none => rw [q] at h; exact h.elim
    | some ds =>
      rw [q] at h
      obtain ⟨hl, h⟩ := post_ite h
      obtain ⟨a, ys, rfl, ea, es, hx, r⟩ := cell_lst o rx q
      obtain ⟨y', rfl, ry⟩ := rs.one_inv
      exact ⟨a, ys, y', rfl, rfl, hx, by rw [r.length]; exact hl, post_putL o es ea h .non (r.append (.cons ry .nil))⟩
  · exact h.elim
def gPop (st : Sto) (x : D) (as : List D) : MM D := match x, as with
  | .ptr i, [] => match cellL st i with
    | some ds => match ds[ds.length - 1]? with
      | some y => putL i ds.dropLast y st
      | none => none
    | none => none
  | _, _ => none
theorem Reps.dropLast {F : Hp} {α : List Addr} {vs : List V} {ds : List D} (r : Reps K F α vs ds) : Reps K F α vs.dropLast ds.dropLast := by
  rw [List.dropLast_eq_take, List.dropLast_eq_take, r.length]
  exact r.take _
theorem rf_pop : RfM K E rPop gPop := fun x dx xs ds w Q o rx rs h => by
  unfold gPop at h
  split at h
  · rename_i i
    cases q : cellL w.st i with
    | none => rw [q] at h; exact h.elim
    | some ds =>
      rw [q] at h
      obtain ⟨a, ys, rfl, ea, es, hx, r⟩ := cell_lst o rx q
      cases q2 : ds[ds.length - 1]? with
      | none => simp only [q2] at h; exact h.elim
      | some y =>
        simp only [q2] at h
        obtain ⟨v, e1, e2⟩ := r.get q2
        cases rs
        exact ⟨a, ys, v, rfl, rfl, hx, by rw [r.length]; exact e1, post_putL o es ea h e2 r.dropLast⟩
  · exact h.elim
def gReverse (st : Sto) (x : D) (as : List D) : MM D := match x, as with
  | .ptr i, [] => match cellL st i with
    | some ds => putL i ds.reverse .non st
    | none => none
  | _, _ => none
theorem rf_reverse : RfM K E rReverse gReverse := fun x dx xs ds w Q o rx rs h => by
  unfold gReverse at h
  split at h
  · rename_i i
    cases q : cellL w.st i with
    | none => rw [q] at h; exact h.elim
    | some ds =>
      rw [q] at h
      obtain ⟨a, ys, rfl, ea, es, hx, r⟩ := cell_lst o rx q
      cases rs
      exact ⟨a, ys, rfl, rfl, hx, post_putL o es ea h .non r.reverse⟩
  · exact h.elim
theorem me_append (ho : ME X E o fa) (ha : MA X E [e] fs) (hbase : attributeBase o "append" X.env (eval o X.env) = eval o X.env := by rfl)
    (hfew : ((backTo cpos (starEach [e] X.env)).all (fun x => !x.1) && (backToKw cpos (keywordEach [] X.env)).all (fun x => x.1.isSome)
      && decide ([e].length + ([] : List Keyword).length + (if ([] : List Keyword).isEmpty then 0 else 1) < 30)) = true := by rfl)
    (hline : (apos.endLine == cpos.line) = true := by rfl) (hs : starEach [e] X.env = (false, eval e X.env) :: starEach [] X.env := by rfl) (hplain : (backTo cpos (starEach [] X.env)).any (·.1) = false := by rfl) :
    ME X E (.Call (.Attribute o "append" apos) [e] [] cpos) (mBM "list" gAppend fa fs) := me_bm PySem.F.plainAttrs_list PySem.F.slot_list_append PySem.F.type_list_append mt_append rf_append ho ha hbase hfew hline hs hplain
theorem me_pop (ho : ME X E o fa) (hbase : attributeBase o "pop" X.env (eval o X.env) = eval o X.env := by rfl) (hline : (apos.endLine == cpos.line) = true := by rfl) : ME X E (.Call (.Attribute o "pop" apos) [] [] cpos) (mBM0 "list" gPop fa) :=
  me_bm0 PySem.F.plainAttrs_list PySem.F.slot_list_pop PySem.F.type_list_pop mt_pop rf_pop ho hbase hline
theorem me_reverse (ho : ME X E o fa) (hbase : attributeBase o "reverse" X.env (eval o X.env) = eval o X.env := by rfl) (hline : (apos.endLine == cpos.line) = true := by rfl) : ME X E (.Call (.Attribute o "reverse" apos) [] [] cpos) (mBM0 "list" gReverse fa) :=
  me_bm0 PySem.F.plainAttrs_list PySem.F.slot_list_reverse PySem.F.type_list_reverse mt_reverse rf_reverse ho hbase hline
/-! ### while -/
def whileN (c : FT) (body : FS) : Nat → Sl → Sto → MM Fl
  | 0, _, _ => none
  | n + 1, sl, st => bnd (c sl st) fun k st => cond k (bnd (body sl st) fun f st => match f with
      | .nx sl => whileN c body n sl st
      | .ct sl => whileN c body n sl st
      | .bk sl => ret (.nx sl) st
      | .rt d => ret (.rt d) st) (ret (.nx sl) st)
/-- n: more turns than there are -/
theorem ms_while (n : Nat) {body : List Stmt} {gc : FT} {gb : FS} (hp : PassesOwn (model X.prog X.w) X.A X.env X.xe) (hc : MT X E c gc) (hb : MSs X E body gb) : MS X E (.While c body [] pos) (whileN gc gb n) := by
  obtain ⟨t1, p1, q1⟩ := hc.ex
  obtain ⟨t2, p2, q2⟩ := hb.ex
  refine ⟨_, ps_while hp p1 p2, fun sl σ w D o s h => ?_⟩
  refine ⟨fun m σ H => ∃ w' sl', w'.H = H ∧ Ok X.K w' ∧ Step w w' ∧ Slots X.K w' sl' σ ∧ PostS X.K E w' (whileN gc gb m sl' w'.st) D, ⟨n, w, sl, rfl, o, Step.refl _, s, h⟩, fun m σ H ⟨w', sl', eH, o', st', sls, hW⟩ => ?_⟩
  subst eH
  cases m with
  | zero => exact hW.elim
  | succ m =>
    refine q1 sl' σ w' _ o' sls (post_bndS hW fun v x w1 o1 s1 r hp => ?_)
    have r : v = x := r
    subst r
    cases v with
    | false => exact (if_neg Bool.false_ne_true).mpr (postS_ret (E := E) o1 hp σ (sls.step s1))
    | true =>
      refine (if_pos rfl).mpr ?_
      refine ⟨fun σ2 H2 => ∃ w2 sl2, w2.H = H2 ∧ Ok X.K w2 ∧ Step w w2 ∧ Slots X.K w2 sl2 σ2 ∧ PostS X.K E w2 (whileN gc gb m sl2 w2.st) D, fun σ2 H2 z => ⟨m, Nat.lt_succ_self m, z⟩, ?_⟩
      refine q2 sl' σ w1 _ o1 (sls.step s1) (postS_bnd hp fun f w4 o4 s4 h4 => ?_)
      have s14 : Step w w4 := (st'.trans s1).trans s4
      cases f with
      | nx sl4 => exact fun σ4 z => ⟨w4, sl4, rfl, o4, s14, z, h4⟩
      | ct sl4 => exact fun σ4 z => ⟨w4, sl4, rfl, o4, s14, z, h4⟩
      | bk sl4 => exact fun σ4 z => postS_ret (E := E) o4 h4 σ4 z
      | rt d => exact fun v z => postS_ret (E := E) o4 h4 v z
/-! ### xs[i] = v -/
def gSet (fo fi : FE) (g : Sto → D → D → D → MM Unit) : FG := fun d sl st => bnd (fo sl st) fun x st => bnd (fi sl st) fun y st => bnd (g st x y d) fun _ st => ret sl st
def RfSet (K : PySem.W.Frag) (E : XK) (t : TSet) (g : Sto → D → D → D → MM Unit) : Prop := ∀ o i v dO di dv w (Q : Hp → Prop), Ok K w → Rep K w.F w.al o dO → Rep K w.F w.al i di → Rep K w.F w.al v dv → Post K E (fun _ (_ : Unit) (_ : Unit) => True) w (g w.st dO di dv) (fun _ H => Q H) → t o i v w.H Q
theorem mg_sub {i : Expr} {fo fi : FE} {t : TSet} {g : Sto → D → D → D → MM Unit} (ho : ME X E o fo) (hi : ME X E i fi) (hs : PSet X t) (hr : RfSet X.K E t g) (hpl : ∀ v, assign (.Subscript o i pos) X.env v = (do
      let ov ← holding [v] (eval o X.env)
      let iv ← holding [v, ov] (eval i X.env)
      standAt pos
      holding [v, ov, iv] (setItem ov iv v)
      release [v, ov, iv] []) := by intro _; rfl) : MG X E (.Subscript o i pos) (gSet fo fi g) := by
  obtain ⟨t1, p1, q1⟩ := ho.ex
  obtain ⟨t2, p2, q2⟩ := hi.ex
  refine ⟨_, pg_sub p1 p2 hs hpl, fun v d sl σ w Q o rv s h => ?_⟩
  refine q1 sl σ w _ o s (post_bnd h fun x dx w1 o1 s1 rx h1 => ?_)
  refine q2 sl σ w1 _ o1 (s.step s1) (post_bnd h1 fun y dy w2 o2 s2 ry h2 => ?_)
  refine hr x y v dx dy d w2 _ o2 (rx.mono s2.le s2.pre) ry ((rv.mono s1.le s1.pre).mono s2.le s2.pre) ?_
  exact post_bnd h2 fun _ _ w3 o3 s3 _ h3 => post_ret (rp := fun w σ sl => Slots X.K w sl σ) o3 (((s.step s1).step s2).step s3) h3
def gSetL (st : Sto) (x y v : D) : MM Unit := match x, y with
  | .ptr i, .int k => match cellL st i with
    | some ds => match ixN ds.length k with
      | some j => ret () (st.set i (some (.lst (ds.set j v))))
      | none => none
    | none => none
  | _, _ => none
theorem rf_setL : RfSet K E rSetL gSetL := fun x y v dx dy dv w Q o rx ry rv h => by
  unfold gSetL at h
  split at h
  · rename_i i k
    cases q : cellL w.st i with
    | none => rw [q] at h; exact h.elim
    | some ds =>
      rw [q] at h
      obtain ⟨a, ys, rfl, ea, es, hx, r⟩ := cell_lst o rx q
      cases q2 : ixN ds.length k with
      | none => simp only [q2] at h; exact h.elim
      | some j =>
        simp only [q2] at h
        have l : Live w.st i := ⟨_, es⟩
        exact ⟨a, ys, k, j, rfl, ry.int_inv, hx, by rw [r.length]; exact q2, h () (w.put i a (.lst (ys.set j v)) (.lst (ds.set j dv))) rfl (ok_put o l ea (.lst upd_same (r.set rv j))) (step_put o l ea _ _) trivial⟩
  · exact h.elim
end
end M

namespace M
open PySem PySem.Spec L2
/-! ### readings that a plain function fixes -/
def tE (K : PySem.W.Frag) (E : XK) (f : FE) : TE := fun σ H Q => ∃ sl w, w.H = H ∧ Ok K w ∧ Slots K w sl σ ∧ Post K E (rD K) w (f sl w.st) Q
def tT (K : PySem.W.Frag) (E : XK) (f : FT) : TT := fun σ H Q => ∃ sl w, w.H = H ∧ Ok K w ∧ Slots K w sl σ ∧ Post K E rB w (f sl w.st) Q
theorem ME.can {X : Cx} {E : XK} {e : Expr} {f : FE} (h : ME X E e f) : PE X e (tE X.K E f) := by
  obtain ⟨t, p, q⟩ := h.ex
  refine ⟨fun pins s σ H Q I h => p.run pins s σ H Q I ?_⟩
  obtain ⟨sl, w, rfl, o, ss, hp⟩ := h
  exact q sl σ w Q o ss hp
theorem MT.can {X : Cx} {E : XK} {e : Expr} {f : FT} (h : MT X E e f) : PT X e (tT X.K E f) := by
  obtain ⟨t, p, q⟩ := h.ex
  refine ⟨fun pins s σ H Q I h => p.run pins s σ H Q I ?_⟩
  obtain ⟨sl, w, rfl, o, ss, hp⟩ := h
  exact q sl σ w Q o ss hp
/-- a target that stores into the slots vs alone -/
def RfGW (K : PySem.W.Frag) (E : XK) (vs : List Nat) (t : TG) (g : FG) : Prop := ∀ v d sl σ w (Q : St → Hp → Prop), Ok K w → Rep K w.F w.al v d → Slots K w sl σ → Post K E (fun w σ' sl' => Slots K w sl' σ' ∧ wipe σ' vs = wipe σ vs) w (g d sl w.st) Q → t v σ w.H Q
def RfGWs (K : PySem.W.Frag) (E : XK) (vs : List Nat) (t : TGs) (g : FGs) : Prop := ∀ xs ds sl σ w (Q : St → Hp → Prop), Ok K w → Reps K w.F w.al xs ds → Slots K w sl σ → Post K E (fun w σ' sl' => Slots K w sl' σ' ∧ wipe σ' vs = wipe σ vs) w (g ds sl w.st) Q → t xs σ w.H Q
theorem wipe_set {v : Option V} {i : Nat} : ∀ {vs : List Nat} {σ : St}, i ∈ vs → wipe (σ.set i v) vs = wipe σ vs
  | [], _, h => by simp at h
  | j :: vs, σ, h => by
    show (wipe (σ.set i v) vs).set j none = (wipe σ vs).set j none
    by_cases z : i = j
    · subst z
      have : ∀ (vs : List Nat) (σ : St), (wipe (σ.set i v) vs).set i none = (wipe σ vs).set i none := by
        intro vs
        induction vs with
        | nil => intro σ; show (σ.set i v).set i none = σ.set i none; rw [List.set_set]
        | cons k r ih =>
          intro σ
          show ((wipe (σ.set i v) r).set k none).set i none = ((wipe σ r).set k none).set i none
          by_cases e : k = i
          · subst e; rw [List.set_set, List.set_set]; exact ih σ
          · rw [List.set_comm _ _ e, ih σ, List.set_comm _ _ e]
      exact this vs σ
    · rw [wipe_set (vs := vs) ((List.mem_cons.mp h).resolve_left z)]
section
variable {K : PySem.W.Frag} {E : XK} {vs : List Nat}
theorem rgw_name (i : Nat) (hv : i ∈ vs := by decide) : RfGW K E vs (gName i) (gNm i) := fun v d sl σ w Q o r s h => h (σ.set i (some v)) w rfl o (Step.refl w) ⟨s.set r, wipe_set hv⟩
theorem rgws_nil : RfGWs K E vs gNil gsNil := fun xs ds sl σ w Q o r s h => by
  cases r with
  | nil => exact ⟨rfl, h σ w rfl o (Step.refl w) ⟨s, rfl⟩⟩
  | cons _ _ => exact h.elim
theorem rgws_cons {t : TG} {u : TGs} {gt : FG} {gr : FGs} (h1 : RfGW K E vs t gt) (h2 : RfGWs K E vs u gr) : RfGWs K E vs (gCons t u) (gsCons gt gr) := fun xs ds sl σ w Q o r s h => by
  cases r with
  | nil => exact h.elim
  | cons r1 r2 =>
    refine ⟨_, _, rfl, h1 _ _ sl σ w _ o r1 s (post_bnd h fun σ' sl' w1 o1 s1 sl1 hp => ?_)⟩
    refine h2 _ _ sl' σ' w1 Q o1 (r2.mono s1.le s1.pre) sl1.1 ?_
    rw [sl1.2]; exact hp
theorem rgw_tup {u : TGs} {gr : FGs} {n : Nat} (h : RfGWs K E vs u gr) : RfGW K E vs (gTup K n u) (gTp n gr) := fun v d sl σ w Q o rv s hq => by
  cases d with
  | tup ds =>
    obtain ⟨hl, hq⟩ := post_ite (p := ds.length = n) hq
    obtain ⟨a, xs, rfl, f, rs⟩ := rv.tup_inv
    exact ⟨a, xs, rfl, SqT.of (o.sub _ _ f), by rw [rs.length]; exact hl, h xs ds sl σ w Q o rs s hq⟩
  | _ => exact hq.elim
end
/-! ### list comprehensions -/
def noX {τ : Type} (m : MM τ) : MM τ := match m with
  | some (.ok x st) => some (.ok x st)
  | _ => none
def wipeD (sl : Sl) : List Nat → Sl
  | [] => sl
  | v :: vs => (wipeD sl vs).set v none
def lcL (gt : FG) (tt : FT) (fe : FE) (sl : Sl) : List D → List D → Sto → MM (List D)
  | [], es, st => ret es st
  | d :: ds, es, st => bnd (gt d sl st) fun sl2 st => bnd (tt sl2 st) fun b st => cond b (bnd (fe sl2 st) fun y st => if es.length < sizeLine then lcL gt tt fe sl ds (es ++ [y]) st else none) (lcL gt tt fe sl ds es st)
def mLc (c : Bool) (it : FA) (gt : FG) (tt : FT) (fe : FE) (vs : List Nat) : FE := fun sl st => bnd (it sl st) fun ds st => bnd (noX (lcL gt tt fe (wipeD sl vs) ds [] st)) fun es st => mkL c es st
def tYesD : FT := fun _ st => ret true st
theorem slots_wipe {K : PySem.W.Frag} {w : Ws} {sl : Sl} {σ : St} (s : Slots K w sl σ) : ∀ vs : List Nat, Slots K w (wipeD sl vs) (wipe σ vs)
  | [] => s
  | v :: vs => by
    have ih := slots_wipe s vs
    refine ⟨by show ((wipe σ vs).set v none).length = ((wipeD sl vs).set v none).length; rw [List.length_set, List.length_set]; exact ih.len, fun i d h => ?_⟩
    have h' : ((wipeD sl vs).set v none)[i]? = some (some d) := h
    show ∃ x, ((wipe σ vs).set v none)[i]? = some (some x) ∧ _
    by_cases z : v = i
    · subst z
      by_cases q : v < (wipeD sl vs).length
      · rw [List.getElem?_set_self q] at h'; cases h'
      · rw [List.getElem?_eq_none (by rw [List.length_set]; omega)] at h'; cases h'
    · rw [List.getElem?_set_ne z] at h'
      rw [List.getElem?_set_ne z]
      exact ih.get i d h'
theorem not_own_new {K : PySem.W.Frag} {w : Ws} (o : Ok K w) {p : Addr} (h : w.H p = none) : ¬ Own w p := fun z => (o.own_H z).1 h
/-- a thing beside the world is written -/
def Ws.side (w : Ws) (p : Addr) (u : HO) : Ws := ⟨w.st, w.al, w.F, upd w.H p u⟩
theorem ok_side {K : PySem.W.Frag} {w : Ws} (o : Ok K w) {p : Addr} (hF : w.F p = none) (hO : ¬ Own w p) (u : HO) : Ok K (w.side p u) := by
  refine ⟨o.len, fun a x e => ?_, fun i c h => ?_, o.inj⟩
  · show upd w.H p u a = some x
    rw [upd_ne (ne_of_none e hF)]; exact o.sub _ _ e
  · obtain ⟨a, e, f, ca⟩ := o.own i c h
    have na : a ≠ p := fun z => hO ⟨i, ⟨c, h⟩, by rw [← z]; exact e⟩
    exact ⟨a, e, f, ca.mono (Le.refl _) (Pre.refl _) (show upd w.H p u a = w.H a from upd_ne na)⟩
theorem step_side {w0 w : Ws} (s : Step w0 w) {p : Addr} (h0 : w0.H p = none) (u : HO) : Step w0 (w.side p u) := by
  refine ⟨s.pre, s.le, fun b o e n => ?_, s.old, fun b e => ?_, s.news⟩
  · show upd w.H p u b = some o
    rw [upd_ne (ne_of_none e h0)]; exact s.frame b o e n
  · show upd w.H p u b ≠ none
    by_cases z : b = p
    · subst z; exact absurd h0 e
    · rw [upd_ne z]; exact s.there b e
theorem noX_ok {τ υ : Type} {K : PySem.W.Frag} {E : XK} {rp : Ws → υ → τ → Prop} {w : Ws} {m : MM τ} {Q : υ → Hp → Prop} (h : Post K E rp w (noX m) Q) : ∃ x st, m = some (.ok x st) ∧ ∀ (v : υ) (w' : Ws), w'.st = st → Ok K w' → Step w w' → rp w' v x → Q v w'.H := by
  match m, h with
  | some (.ok x st), h => exact ⟨x, st, rfl, h⟩
  | some (.exc _ _), h => exact h.elim
  | none, h => exact h.elim
theorem bnd_okI {τ υ : Type} {m : MM τ} {k : τ → Sto → MM υ} {y : υ} {st : Sto} (h : bnd m k = some (.ok y st)) : ∃ x st1, m = some (.ok x st1) ∧ k x st1 = some (.ok y st) := by
  match m, h with
  | some (.ok x st1), h => exact ⟨x, st1, rfl, h⟩
section
variable {X : Cx} {E : XK} {K : PySem.W.Frag}
/-- a run that ends well, as a Post whose error is never asked -/
theorem post_of_ok {τ υ : Type} {E' : XK} {rp : Ws → υ → τ → Prop} {w : Ws} {m : MM τ} {x : τ} {st : Sto} {Q : υ → Hp → Prop} (e : m = some (.ok x st)) (h : ∀ (v : υ) (w' : Ws), w'.st = st → Ok K w' → Step w w' → rp w' v x → Q v w'.H) : Post K E' rp w m Q := by
  subst e; exact h
theorem ref_lc {wi : TI} {g : TG} {tt : TT} {te : TE} {fi : FA} {gt : FG} {ft : FT} {fe : FE} {vs : List Nat} {E' : XK} (c : Bool)
    (hi : ∀ sl σ w (R : It → Hp → Prop), Ok K w → Slots K w sl σ → Post K E (fun w J ds => SeqIt K w J ds) w (fi sl w.st) R → wi σ w.H R)
    (hg : ∀ v d sl σ w (Q : St → Hp → Prop), Ok K w → Rep K w.F w.al v d → Slots K w sl σ → Post K E' (fun w σ' sl' => Slots K w sl' σ' ∧ wipe σ' vs = wipe σ vs) w (gt d sl w.st) Q → g v σ w.H Q)
    (ht : RefT K E' tt ft) (he : RefE K E' te fe) (hww : ∀ σ : St, wipe (wipe σ vs) vs = wipe σ vs) : RefE K E (tLc wi g tt te vs) (mLc c fi gt ft fe vs) := fun sl σ w Q o s h => by
  refine hi sl σ w _ o s (post_bnd h fun J ds w1 o1 s1 hJ hp => ?_)
  intro Da nD
  have hnx : ∃ es st, lcL gt ft fe (wipeD sl vs) ds [] w1.st = some (.ok es st) ∧ Post K E (rD K) w1 (mkL c es st) Q := by
    cases hm : lcL gt ft fe (wipeD sl vs) ds [] w1.st with
    | none => rw [hm] at hp; exact hp.elim
    | some r =>
      rw [hm] at hp
      cases r with
      | ok es st => exact ⟨es, st, rfl, hp⟩
      | exc _ _ => exact hp.elim
  obtain ⟨es, st, hrun, hfin⟩ := hnx
  refine ⟨fun i m H => i + m = ds.length ∧ ∃ w' es1 xs, w'.H = H ∧ Ok K w' ∧ Step w1 w' ∧ H Da = some (.lst xs) ∧ w'.F Da = none ∧ ¬ Own w' Da ∧ Reps K w'.F w'.al xs es1 ∧ lcL gt ft fe (wipeD sl vs) (ds.drop i) es1 w'.st = some (.ok es st),
    ⟨ds.length, by omega, w1.side Da (.lst []), [], [], rfl, ok_side o1 (o1.H_of_F nD) (not_own_new o1 nD) _, step_side (Step.refl _) nD _, upd_same, o1.H_of_F nD, not_own_new o1 nD, .nil, hrun⟩, fun i m H ⟨em, w', es1, xs, eH, o', st', hD, fD, oD, rs, hW⟩ => ?_⟩
  subst eH
  obtain ⟨hstop, hgo⟩ := hJ w' o' st'
  cases m with
  | zero =>
    have ei : i = ds.length := by omega
    subst ei
    rw [List.drop_length] at hW
    have e1 : es1 = es ∧ w'.st = st := by
      have q : some (R.ok es1 w'.st) = some (R.ok es st) := hW
      injection q with q
      injection q with q1 q2
      exact ⟨q1, q2⟩
    obtain ⟨rfl, rfl⟩ := e1
    refine .inl ⟨hstop, ?_⟩
    have hfin := Post.step st' hfin
    cases c with
    | true =>
      have oo : Ok K ⟨w'.st ++ [some (.lst es1)], w'.al ++ [Da], w'.F, w'.H⟩ := adopt o' oD fD (.lst hD (rs.mono (Le.refl _) (Pre.app _ _)))
      have s2 : Step w1 ⟨w'.st ++ [some (.lst es1)], w'.al ++ [Da], w'.F, w'.H⟩ := step_adopt st' o'.len nD
      have z : Post K E (rD K) w1 (mkL true es1 w'.st) Q := by assumption
      have q := z (.ref Da) ⟨w'.st ++ [some (.lst es1)], w'.al ++ [Da], w'.F, w'.H⟩ rfl oo s2 (.ptr (by
        show (w'.al ++ [Da])[w'.st.length]? = some Da
        rw [List.getElem?_append_right (by rw [o'.len]; exact Nat.le_refl _), o'.len, Nat.sub_self]; rfl))
      exact q
    | false =>
      have z : Post K E (rD K) w1 (mkL false es1 w'.st) Q := by assumption
      have hsub : ∀ a x, w'.F a = some x → upd w'.F Da (.lst xs) a = some x := fun a x e => by rw [upd_ne (ne_of_none e fD)]; exact e
      have oo : Ok K ⟨w'.st, w'.al, upd w'.F Da (.lst xs), w'.H⟩ := by
        refine ⟨o'.len, fun a x e => ?_, fun j cl h => ?_, o'.inj⟩
        · have e' : upd w'.F Da (.lst xs) a = some x := e
          by_cases q : a = Da
          · subst q; rw [upd_same] at e'; rw [← e']; exact hD
          · rw [upd_ne q] at e'; exact o'.sub _ _ e'
        · obtain ⟨a, e, f, ca⟩ := o'.own j cl h
          have na : a ≠ Da := fun z => oD ⟨j, ⟨cl, h⟩, by rw [← z]; exact e⟩
          exact ⟨a, e, (show upd w'.F Da _ a = none by rw [upd_ne na]; exact f), ca.mono (Le.of hsub) (Pre.refl _) rfl⟩
      have s2 : Step w1 ⟨w'.st, w'.al, upd w'.F Da (.lst xs), w'.H⟩ := by
        refine ⟨st'.pre, st'.le.trans (Le.of hsub), st'.frame, fun b e t n => ?_, st'.there, st'.news⟩
        have nb : b ≠ Da := fun q => e (by rw [q]; exact nD)
        show upd w'.F Da _ b = w1.F b
        rw [upd_ne nb]; exact st'.old b e t n
      have q := z (.ref Da) ⟨w'.st, w'.al, upd w'.F Da (.lst xs), w'.H⟩ rfl oo s2 (.lst (show upd w'.F Da _ Da = _ from upd_same) (rs.mono (Le.of hsub) (Pre.refl _)))
      exact q
  | succ m =>
    have hi' : i < ds.length := by omega
    have ed : ds[i]? = some ds[i] := List.getElem?_eq_getElem hi'
    obtain ⟨g1, g2⟩ := hgo i _ ed
    have side : ∀ w2 : Ws, Ok K w2 → Step w' w2 → w2.H Da = some (.lst xs) ∧ w2.F Da = none ∧ ¬ Own w2 Da := fun w2 o2 s2 => by
      have hne : w'.H Da ≠ none := by rw [hD]; exact Option.some_ne_none _
      exact ⟨s2.frame _ _ hD oD, (s2.old _ hne (fun ys z => by rw [hD] at z; cases z) oD).trans fD, fun z => (s2.news _ z).elim oD hne⟩
    refine .inr ⟨g1, fun H2 => ∃ w2 es2 ys, w2.H = H2 ∧ Ok K w2 ∧ Step w1 w2 ∧ H2 Da = some (.lst ys) ∧ w2.F Da = none ∧ ¬ Own w2 Da ∧ Reps K w2.F w2.al ys es2 ∧ lcL gt ft fe (wipeD sl vs) (ds.drop (i + 1)) es2 w2.st = some (.ok es st),
      fun H2 ⟨w2, es2, ys, h1, h2, h3, h4, h5, h6, h7, h8⟩ => ⟨m, by omega, by omega, w2, es2, ys, h1, h2, h3, h4, h5, h6, h7, h8⟩, fun x H' hy => ?_⟩
    obtain ⟨w2, rfl, est, o2, st2, rx⟩ := g2 x H' hy
    rw [List.drop_eq_getElem_cons hi'] at hW
    obtain ⟨sl2, sta, e1, hW⟩ := bnd_okI hW
    obtain ⟨b, stb, e2, hW⟩ := bnd_okI hW
    refine hg x ds[i] (wipeD sl vs) (wipe σ vs) w2 _ o2 rx ((slots_wipe ((s.step s1).step st') vs).step st2) (post_of_ok (by rw [est]; exact e1) fun σ3 w3 q3 o3 s3 r3 => ?_)
    refine ⟨by rw [r3.2]; exact hww σ, ?_⟩
    refine ht sl2 σ3 w3 _ o3 r3.1 (post_of_ok (by rw [q3]; exact e2) fun v w4 q4 o4 s4 r4 => ?_)
    have r4 : v = b := r4
    subst r4
    have st4 : Step w' w4 := (st2.trans s3).trans s4
    cases v with
    | false =>
      refine (if_neg Bool.false_ne_true).mpr ?_
      obtain ⟨a1, a2, a3⟩ := side w4 o4 st4
      exact ⟨w4, es1, xs, rfl, o4, st'.trans st4, a1, a2, a3, rs.mono st4.le st4.pre, by rw [q4]; exact hW⟩
    | true =>
      refine (if_pos rfl).mpr ?_
      obtain ⟨y, stc, e3, hW⟩ := bnd_okI hW
      have hl : es1.length < sizeLine := by
        by_cases z : es1.length < sizeLine
        · exact z
        · rw [if_neg z] at hW; cases hW
      rw [if_pos hl] at hW
      refine he sl2 σ3 w4 _ o4 (r3.1.step s4) (post_of_ok (by rw [q4]; exact e3) fun u w5 q5 o5 s5 r5 => ?_)
      have st5 : Step w' w5 := st4.trans s5
      obtain ⟨a1, a2, a3⟩ := side w5 o5 st5
      refine ⟨xs, a1, by rw [rs.length]; exact hl, w5.side Da (.lst (xs ++ [u])), es1 ++ [y], xs ++ [u], rfl, ok_side o5 a2 a3 _, step_side (st'.trans st5) nD _, upd_same, a2, a3, ?_, by show lcL _ _ _ _ _ _ w5.st = _; rw [q5]; exact hW⟩
      exact (rs.mono st5.le st5.pre).append (.cons r5 .nil)
end
section
variable {X : Cx} {E E' : XK} {elt tg iter c : Expr} {pos : Pos} {scope : Scope} {own : List (Str × Nat)} {fi : FA} {gt : FG} {ft : FT} {fe : FE} {g : TG}
theorem wipe_wipe (σ : St) (vs : List Nat) : wipe (wipe σ vs) vs = wipe σ vs := by
  have h : ∀ (us : List Nat), (∀ u ∈ us, u ∈ vs) → wipe (wipe σ us) vs = wipe σ vs := by
    intro us
    induction us with
    | nil => intro _; rfl
    | cons u r ih =>
      intro hu
      show wipe ((wipe σ r).set u none) vs = _
      rw [wipe_set (hu u List.mem_cons_self)]
      exact ih fun x hx => hu x (List.mem_cons_of_mem _ hx)
  exact h vs fun _ hx => hx
/-- [e for x in xs]; b: the result a cell -/
theorem me_lc (b : Bool) (hc : X.calm = true) (hN : X.N.Nodup) (hi : MI X E tg iter fi) (ok : BlkOk X.N X.env.scope scope own)
    (hg : ∀ (s : Shared) (H : Hp) (C : Addr) (cl : List (Str × Addr)) (fp : List Addr), PG (X.blk s H scope (compEnvC scope cl C X.env) fp) tg g) (hgr : RfGW X.K E' (own.map (·.2)) g gt)
    (he : ∀ (s : Shared) (H : Hp) (C : Addr) (cl : List (Str × Addr)) (fp : List Addr), ME (X.blk s H scope (compEnvC scope cl C X.env) fp) E' elt fe) (hs : ∀ x, foldedSetIterable iter X.env x = pure x := by intro _; rfl) :
    ME X E (.ListComp elt [⟨tg, iter, [], 0⟩] scope pos) (mLc b fi gt tYesD fe (own.map (·.2))) := by
  obtain ⟨wi, p, q⟩ := hi.ex
  refine ⟨_, pe_lc hc hN p ok hg (fun _ _ _ _ _ => pts_nil) (fun s H C cl fp => (show PE (X.blk s H scope (compEnvC scope cl C X.env) fp) elt (tE X.K E' fe) from (he s H C cl fp).can)) hs, ?_⟩
  refine ref_lc (E' := E') b q hgr (fun sl σ w Q o s h => post_ret o rfl h) (fun sl σ w Q o s h => ⟨sl, w, rfl, o, s, h⟩) fun σ => wipe_wipe σ _
/-- [e for x in xs if c] -/
theorem me_lcIf (b : Bool) (hc : X.calm = true) (hN : X.N.Nodup) (hi : MI X E tg iter fi) (ok : BlkOk X.N X.env.scope scope own)
    (hg : ∀ (s : Shared) (H : Hp) (C : Addr) (cl : List (Str × Addr)) (fp : List Addr), PG (X.blk s H scope (compEnvC scope cl C X.env) fp) tg g) (hgr : RfGW X.K E' (own.map (·.2)) g gt)
    (ht : ∀ (s : Shared) (H : Hp) (C : Addr) (cl : List (Str × Addr)) (fp : List Addr), MT (X.blk s H scope (compEnvC scope cl C X.env) fp) E' c ft)
    (he : ∀ (s : Shared) (H : Hp) (C : Addr) (cl : List (Str × Addr)) (fp : List Addr), ME (X.blk s H scope (compEnvC scope cl C X.env) fp) E' elt fe) (hs : ∀ x, foldedSetIterable iter X.env x = pure x := by intro _; rfl) :
    ME X E (.ListComp elt [⟨tg, iter, [c], 0⟩] scope pos) (mLc b fi gt ft fe (own.map (·.2))) := by
  obtain ⟨wi, p, q⟩ := hi.ex
  refine ⟨_, pe_lc hc hN p ok hg (fun s H C cl fp => pts_one (show PT (X.blk s H scope (compEnvC scope cl C X.env) fp) c (tT X.K E' ft) from (ht s H C cl fp).can)) (fun s H C cl fp => (show PE (X.blk s H scope (compEnvC scope cl C X.env) fp) elt (tE X.K E' fe) from (he s H C cl fp).can)) hs, ?_⟩
  refine ref_lc (E' := E') b q hgr (fun sl σ w Q o s h => ⟨sl, w, rfl, o, s, h⟩) (fun sl σ w Q o s h => ⟨sl, w, rfl, o, s, h⟩) fun σ => wipe_wipe σ _
end
end M

namespace M
open PySem L2
section
variable {κ : Type} [DecidableEq κ]
def lookD (kvs : List (κ × D)) (k : κ) : Option D := (kvs.find? fun kv => decide (kv.1 = k)).map (·.2)
def putD (kvs : List (κ × D)) (k : κ) (v : D) : List (κ × D) :=
  if (kvs.any fun kv => decide (kv.1 = k)) = true then kvs.map (fun kv => if kv.1 = k then (kv.1, v) else kv) else kvs ++ [(k, v)]
def dropD (kvs : List (κ × D)) (k : κ) : List (κ × D) := kvs.filter fun kv => decide (kv.1 ≠ k)
variable {K : PySem.W.Frag} {F : Hp} {α : List Addr}
theorem look_some {k : κ} {d : D} : ∀ {kvs : List (κ × V)} {ds : List (κ × D)}, kvs.map (·.1) = ds.map (·.1) → Reps K F α (kvs.map (·.2)) (ds.map (·.2)) → lookD ds k = some d → ∃ v, valV kvs k = some v ∧ Rep K F α v d
  | [], [], _, _, h => by cases h
  | [], _ :: _, e, _, _ => by cases e
  | _ :: _, [], e, _, _ => by cases e
  | (k1, v1) :: r, (k2, d2) :: q, e, rs, h => by
    injection e with e1 e2
    have e1 : k1 = k2 := e1
    subst e1
    cases rs with
    | cons r1 r2 =>
      by_cases z : k1 = k
      · unfold lookD at h
        rw [List.find?_cons_of_pos (by simp [z])] at h
        cases h
        exact ⟨v1, valV_pos z, r1⟩
      · unfold lookD at h
        rw [List.find?_cons_of_neg (by simp [z])] at h
        rw [valV_neg z]
        exact look_some e2 r2 h
theorem look_none {k : κ} : ∀ {kvs : List (κ × V)} {ds : List (κ × D)}, kvs.map (·.1) = ds.map (·.1) → lookD ds k = none → valV kvs k = none
  | [], [], _, h => rfl
  | [], _ :: _, e, _ => by cases e
  | _ :: _, [], e, _ => by cases e
  | (k1, v1) :: r, (k2, d2) :: q, e, h => by
    injection e with e1 e2
    have e1 : k1 = k2 := e1
    subst e1
    by_cases z : k1 = k
    · unfold lookD at h
      rw [List.find?_cons_of_pos (by simp [z])] at h
      cases h
    · unfold lookD at h
      rw [List.find?_cons_of_neg (by simp [z])] at h
      rw [valV_neg z]
      exact look_none e2 h
theorem look_is {k : κ} {kvs : List (κ × V)} {ds : List (κ × D)} (e : kvs.map (·.1) = ds.map (·.1)) (r : Reps K F α (kvs.map (·.2)) (ds.map (·.2))) : (valV kvs k).isSome = (lookD ds k).isSome := by
  cases h : lookD ds k with
  | none => rw [look_none e h]; rfl
  | some d => obtain ⟨v, hv, _⟩ := look_some e r h; rw [hv]; rfl
theorem any_key {k : κ} : ∀ {kvs : List (κ × V)} {ds : List (κ × D)}, kvs.map (·.1) = ds.map (·.1) → (kvs.any fun kv => decide (kv.1 = k)) = ds.any fun kv => decide (kv.1 = k)
  | [], [], _ => rfl
  | [], _ :: _, e => by cases e
  | _ :: _, [], e => by cases e
  | (k1, v1) :: r, (k2, d2) :: q, e => by
    injection e with e1 e2
    have e1 : k1 = k2 := e1
    subst e1
    rw [List.any_cons, List.any_cons, any_key e2]
theorem map_key {k : κ} {v : V} {d : D} (rv : Rep K F α v d) : ∀ {kvs : List (κ × V)} {ds : List (κ × D)}, kvs.map (·.1) = ds.map (·.1) → Reps K F α (kvs.map (·.2)) (ds.map (·.2)) →
    (kvs.map fun kv => if kv.1 = k then (kv.1, v) else kv).map (·.1) = (ds.map fun kv => if kv.1 = k then (kv.1, d) else kv).map (·.1) ∧ Reps K F α ((kvs.map fun kv => if kv.1 = k then (kv.1, v) else kv).map (·.2)) ((ds.map fun kv => if kv.1 = k then (kv.1, d) else kv).map (·.2))
  | [], [], _, _ => ⟨rfl, .nil⟩
  | [], _ :: _, e, _ => by cases e
  | _ :: _, [], e, _ => by cases e
  | (k1, v1) :: r, (k2, d2) :: q, e, rs => by
    injection e with e1 e2
    have e1 : k1 = k2 := e1
    subst e1
    cases rs with
    | cons r1 r2 =>
      obtain ⟨i1, i2⟩ := map_key rv e2 r2
      rw [List.map_cons, List.map_cons, List.map_cons, List.map_cons, List.map_cons, List.map_cons]
      by_cases z : k1 = k
      · simp only [z, if_true]
        exact ⟨congrArg _ i1, .cons rv i2⟩
      · simp only [z, if_false]
        exact ⟨congrArg _ i1, .cons r1 i2⟩
theorem put_rep {k : κ} {v : V} {d : D} (rv : Rep K F α v d) {kvs : List (κ × V)} {ds : List (κ × D)} (e : kvs.map (·.1) = ds.map (·.1)) (r : Reps K F α (kvs.map (·.2)) (ds.map (·.2))) :
    (putK kvs k v).map (·.1) = (putD ds k d).map (·.1) ∧ Reps K F α ((putK kvs k v).map (·.2)) ((putD ds k d).map (·.2)) := by
  unfold putK putD
  rw [any_key e]
  split
  · exact map_key rv e r
  · rw [List.map_append, List.map_append, List.map_append, List.map_append, e]
    exact ⟨rfl, r.append (.cons rv .nil)⟩
theorem len_key {kvs : List (κ × V)} {ds : List (κ × D)} (e : kvs.map (·.1) = ds.map (·.1)) : kvs.length = ds.length := by
  have := congrArg List.length e
  rwa [List.length_map, List.length_map] at this
theorem drop_rep {k : κ} : ∀ {kvs : List (κ × V)} {ds : List (κ × D)}, kvs.map (·.1) = ds.map (·.1) → Reps K F α (kvs.map (·.2)) (ds.map (·.2)) → (dropK kvs k).map (·.1) = (dropD ds k).map (·.1) ∧ Reps K F α ((dropK kvs k).map (·.2)) ((dropD ds k).map (·.2))
  | [], [], _, _ => ⟨rfl, .nil⟩
  | [], _ :: _, e, _ => by cases e
  | _ :: _, [], e, _ => by cases e
  | (k1, v1) :: r, (k2, d2) :: q, e, rs => by
    injection e with e1 e2
    have e1 : k1 = k2 := e1
    subst e1
    cases rs with
    | cons r1 r2 =>
      obtain ⟨i1, i2⟩ := drop_rep (k := k) e2 r2
      unfold dropK dropD at i1 i2 ⊢
      by_cases z : k1 = k
      · rw [List.filter_cons_of_neg (by simp [z]), List.filter_cons_of_neg (by simp [z])]
        exact ⟨i1, i2⟩
      · rw [List.filter_cons_of_pos (by simp [z]), List.filter_cons_of_pos (by simp [z])]
        exact ⟨congrArg _ i1, .cons r1 i2⟩
end
/-! ### dicts, still or cells -/
def cellK (st : Sto) (i : Nat) : Option (List (Key × D)) := match st[i]? with
  | some (some (.dct ds)) => some ds
  | _ => none
theorem cellK_some {st : Sto} {i : Nat} {ds : List (Key × D)} (h : cellK st i = some ds) : st[i]? = some (some (.dct ds)) := by
  unfold cellK at h
  split at h
  · rename_i e q; cases h; exact q
  · cases h
def cellT (st : Sto) (i : Nat) : Option (List (List Key × D)) := match st[i]? with
  | some (some (.dcT ds)) => some ds
  | _ => none
theorem cellT_some {st : Sto} {i : Nat} {ds : List (List Key × D)} (h : cellT st i = some ds) : st[i]? = some (some (.dcT ds)) := by
  unfold cellT at h
  split at h
  · rename_i e q; cases h; exact q
  · cases h
def dkOf (st : Sto) : D → Option (List (Key × D))
  | .dct ds => some ds
  | .ptr i => cellK st i
  | _ => none
def dtOf (st : Sto) : D → Option (List (List Key × D))
  | .dcT ds => some ds
  | .ptr i => cellT st i
  | _ => none
theorem dkOf_rep {K : PySem.W.Frag} {w : Ws} (o : Ok K w) {v : V} {d : D} {ds : List (Key × D)} (r : Rep K w.F w.al v d) (h : dkOf w.st d = some ds) : ∃ a kvs, v = .ref a ∧ Rd w.H a (.dK kvs) ∧ kvs.map (·.1) = ds.map (·.1) ∧ Reps K w.F w.al (kvs.map (·.2)) (ds.map (·.2)) := by
  cases d with
  | dct es =>
    obtain ⟨a, kvs, e, f, ek, rs⟩ := r.dct_inv
    cases h
    exact ⟨a, kvs, e, rd_of o.sub f, ek, rs⟩
  | ptr i =>
    obtain ⟨a, e, _, _, ca⟩ := cell_at o r (cellK_some h)
    cases ca with
    | dct hx ek rs => exact ⟨a, _, e, .inl hx, ek, rs⟩
  | _ => cases h
theorem dtOf_rep {K : PySem.W.Frag} {w : Ws} (o : Ok K w) {v : V} {d : D} {ds : List (List Key × D)} (r : Rep K w.F w.al v d) (h : dtOf w.st d = some ds) : ∃ a kvs, v = .ref a ∧ Rd w.H a (.dT kvs) ∧ kvs.map (·.1) = ds.map (·.1) ∧ Reps K w.F w.al (kvs.map (·.2)) (ds.map (·.2)) := by
  cases d with
  | dcT es =>
    obtain ⟨a, kvs, e, f, ek, rs⟩ := r.dcT_inv
    cases h
    exact ⟨a, kvs, e, rd_of o.sub f, ek, rs⟩
  | ptr i =>
    obtain ⟨a, e, _, _, ca⟩ := cell_at o r (cellT_some h)
    cases ca with
    | dcT hx ek rs => exact ⟨a, _, e, .inl hx, ek, rs⟩
  | _ => cases h
/-- a key -/
def keyOf : D → Option Key
  | .int i => some (.inl i)
  | .str s => some (.inr s)
  | _ => none
def keysOf : List D → Option (List Key)
  | [] => some []
  | d :: r => match keyOf d, keysOf r with
    | some k, some ks => some (k :: ks)
    | _, _ => none
theorem keyOf_rep {K : PySem.W.Frag} {F : Hp} {α : List Addr} {v : V} {d : D} {k : Key} (r : Rep K F α v d) (h : keyOf d = some k) : v = kV k := by
  cases d with
  | int i => cases h; exact r.int_inv
  | str i => cases h; exact r.str_inv
  | _ => cases h
theorem keysOf_rep {K : PySem.W.Frag} {F : Hp} {α : List Addr} : ∀ {vs : List V} {ds : List D} {ks : List Key}, Reps K F α vs ds → keysOf ds = some ks → vs = ks.map kV
  | _, _, _, .nil, h => by cases h; rfl
  | _, _, ks, .cons (v := v) (d := d) (vs := vs) (ds := ds) r rs, h => by
    have h : (match keyOf d, keysOf ds with
      | some k, some ks => some (k :: ks)
      | _, _ => none) = some ks := h
    cases q : keyOf d with
    | none => rw [q] at h; cases h
    | some k =>
      cases q2 : keysOf ds with
      | none => rw [q, q2] at h; cases h
      | some ks2 =>
        rw [q, q2] at h
        cases h
        rw [keyOf_rep r q, keysOf_rep rs q2]; rfl
/-- what a dict says of a key: not a dict or no key; not there; there -/
def dGet (st : Sto) (x y : D) : Option (Option D) := match y with
  | .tup ks => match dtOf st x, keysOf ks with
    | some ds, some k => some (lookD ds k)
    | _, _ => none
  | y => match dkOf st x, keyOf y with
    | some ds, some k => some (lookD ds k)
    | _, _ => none
theorem dGet_rep {K : PySem.W.Frag} {w : Ws} (o : Ok K w) {x y : V} {dx dy : D} {r : Option D} (rx : Rep K w.F w.al x dx) (ry : Rep K w.F w.al y dy) (h : dGet w.st dx dy = some r) :
    ∃ a rv, x = .ref a ∧ DGet w.H a y rv ∧ IsD w.H a ∧ rv.isSome = r.isSome ∧ ∀ d, r = some d → ∃ v, rv = some v ∧ Rep K w.F w.al v d := by
  have viaK : (match dkOf w.st dx, keyOf dy with
    | some ds, some k => some (lookD ds k)
    | _, _ => none) = some r → ∃ a rv, x = .ref a ∧ DGet w.H a y rv ∧ IsD w.H a ∧ rv.isSome = r.isSome ∧ ∀ d, r = some d → ∃ v, rv = some v ∧ Rep K w.F w.al v d := fun h => by
    cases q : dkOf w.st dx with
    | none => rw [q] at h; cases h
    | some ds =>
      cases q2 : keyOf dy with
      | none => rw [q, q2] at h; cases h
      | some k =>
        rw [q, q2] at h
        injection h with h
        obtain ⟨a, kvs, rfl, hr, ek, rs⟩ := dkOf_rep o rx q
        refine ⟨a, valV kvs k, rfl, .inl ⟨kvs, k, hr, keyOf_rep ry q2, rfl⟩, .inl ⟨kvs, hr⟩, by rw [look_is ek rs, h], fun d e => ?_⟩
        rw [e] at h
        exact look_some ek rs h
  cases dy with
  | tup ks =>
    have h : (match dtOf w.st dx, keysOf ks with
      | some ds, some k => some (lookD ds k)
      | _, _ => none) = some r := h
    cases q : dtOf w.st dx with
    | none => rw [q] at h; cases h
    | some ds =>
      cases q2 : keysOf ks with
      | none => rw [q, q2] at h; cases h
      | some k =>
        rw [q, q2] at h
        injection h with h
        obtain ⟨a, kvs, rfl, hr, ek, rs⟩ := dtOf_rep o rx q
        obtain ⟨b, xs, rfl, hb, rxs⟩ := ry.tup_inv
        refine ⟨a, valV kvs k, rfl, .inr ⟨kvs, k, b, hr, rfl, by rw [← keysOf_rep rxs q2]; exact o.sub _ _ hb, rfl⟩, .inr ⟨kvs, hr⟩, by rw [look_is ek rs, h], fun d e => ?_⟩
        rw [e] at h
        exact look_some ek rs h
  | int i => exact viaK h
  | str i => exact viaK h
  | _ => exact viaK h
section
variable {X : Cx} {E : XK} {K : PySem.W.Frag} {a b c e o i : Expr} {es rest : List Expr} {fa fb fc fi : FE} {fs : FA} {ta tb tc : TE} {pos apos cpos : Pos}
def mDGet (fo fi : FE) : FE := fun sl st => bnd (fo sl st) fun x st => bnd (fi sl st) fun y st => match dGet st x y with
  | some (some d) => ret d st
  | _ => none
theorem me_dget (hu : X.A.units + 1 < cLine) (ho : ME X E o fa) (hi : ME X E i fi) (hs : NoSl i := by exact fun _ _ => rfl) : ME X E (.Subscript o i pos) (mDGet fa fi) := by
  obtain ⟨t, p, q⟩ := ho.ex
  obtain ⟨t', p', q'⟩ := hi.ex
  refine ⟨_, pe_dget hu p p' hs, fun sl σ w Q o s h => ?_⟩
  refine q sl σ w _ o s (post_bnd h fun x dx w1 o1 s1 rx h1 => ?_)
  refine q' sl σ w1 _ o1 (s.step s1) (post_bnd h1 fun y dy w2 o2 s2 ry h2 => ?_)
  have rx := rx.mono s2.le s2.pre
  cases g : dGet w2.st dx dy with
  | none => simp only [g] at h2; exact h2.elim
  | some r =>
    cases r with
    | none => simp only [g] at h2; exact h2.elim
    | some d =>
      simp only [g] at h2
      obtain ⟨a, rv, rfl, hg, _, _, hd⟩ := dGet_rep o2 rx ry g
      obtain ⟨v, rfl, rv⟩ := hd d rfl
      exact ⟨a, v, rfl, hg, post_ret o2 rv h2⟩
def mDIn (n : Bool) (fi fo : FE) : FE := fun sl st => bnd (fi sl st) fun y st => bnd (fo sl st) fun x st => match dGet st x y with
  | some r => ret (.bl (if n then !r.isSome else r.isSome)) st
  | none => none
theorem ref_din (hi : RefE K E tb fi) (ho : RefE K E ta fa) : RefE K E (tDIn tb ta) (mDIn false fi fa) := fun sl σ w Q o s h => by
  refine hi sl σ w _ o s (post_bnd h fun y dy w1 o1 s1 ry h1 => ?_)
  refine ho sl σ w1 _ o1 (s.step s1) (post_bnd h1 fun x dx w2 o2 s2 rx h2 => ?_)
  have ry := ry.mono s2.le s2.pre
  cases g : dGet w2.st dx dy with
  | none => simp only [g] at h2; exact h2.elim
  | some r =>
    simp only [g] at h2
    obtain ⟨a, rv, rfl, hg, _, e, _⟩ := dGet_rep o2 rx ry g
    exact ⟨a, rv, rfl, hg, by rw [e]; exact post_ret o2 (.bl _) h2⟩
theorem ref_dnotin (hi : RefE K E tb fi) (ho : RefE K E ta fa) : RefE K E (tDNotIn tb ta) (mDIn true fi fa) := fun sl σ w Q o s h => by
  refine hi sl σ w _ o s (post_bnd h fun y dy w1 o1 s1 ry h1 => ?_)
  refine ho sl σ w1 _ o1 (s.step s1) (post_bnd h1 fun x dx w2 o2 s2 rx h2 => ?_)
  have ry := ry.mono s2.le s2.pre
  cases g : dGet w2.st dx dy with
  | none => simp only [g] at h2; exact h2.elim
  | some r =>
    simp only [g] at h2
    obtain ⟨a, rv, rfl, hg, _, e, _⟩ := dGet_rep o2 rx ry g
    exact ⟨a, rv, rfl, hg, by rw [e]; exact post_ret o2 (.bl _) h2⟩
theorem me_din (hu : X.A.units + 1 < cLine) (hi : ME X E i fi) (ho : ME X E o fa) (h1 : behindInMarks .In o = false := by rfl) : ME X E (.Compare i [.In] [o] pos) (mDIn false fi fa) := by
  obtain ⟨t, p, q⟩ := ho.ex
  obtain ⟨t', p', q'⟩ := hi.ex
  exact ⟨_, pe_cmp (pc_din hu p' p) h1, ref_din q' q⟩
theorem me_dnotin (hu : X.A.units + 1 < cLine) (hi : ME X E i fi) (ho : ME X E o fa) (h1 : behindInMarks .NotIn o = false := by rfl) : ME X E (.Compare i [.NotIn] [o] pos) (mDIn true fi fa) := by
  obtain ⟨t, p, q⟩ := ho.ex
  obtain ⟨t', p', q'⟩ := hi.ex
  exact ⟨_, pe_cmp (pc_dnotin hu p' p) h1, ref_dnotin q' q⟩
theorem mt_din (hu : X.A.units + 1 < cLine) (hi : ME X E i fi) (ho : ME X E o fa) (h1 : behindInMarks .In o = false := by rfl) : MT X E (.Compare i [.In] [o] pos) (mB (mDIn false fi fa)) := by
  obtain ⟨t, p, q⟩ := ho.ex
  obtain ⟨t', p', q'⟩ := hi.ex
  exact ⟨_, pt_cmp (pc_din hu p' p) h1, ref_B (ref_din q' q)⟩
theorem mt_dnotin (hu : X.A.units + 1 < cLine) (hi : ME X E i fi) (ho : ME X E o fa) (h1 : behindInMarks .NotIn o = false := by rfl) : MT X E (.Compare i [.NotIn] [o] pos) (mB (mDIn true fi fa)) := by
  obtain ⟨t, p, q⟩ := ho.ex
  obtain ⟨t', p', q'⟩ := hi.ex
  exact ⟨_, pt_cmp (pc_dnotin hu p' p) h1, ref_B (ref_dnotin q' q)⟩
/-- d.get(k, x) -/
def mDGet2 (fo fi fx : FE) : FE := fun sl st => bnd (fo sl st) fun x st => cond (isDct st x) (bnd (fi sl st) fun y st => bnd (fx sl st) fun z st => match dGet st x y with
    | some r => ret (r.getD z) st
    | none => none) none
where isDct (st : Sto) (x : D) : Bool := (dkOf st x).isSome || (dtOf st x).isSome
theorem isDct_rep {w : Ws} (o : Ok K w) {v : V} {d : D} (r : Rep K w.F w.al v d) (h : mDGet2.isDct w.st d = true) : ∃ a, v = .ref a ∧ IsD w.H a := by
  unfold mDGet2.isDct at h
  rw [Bool.or_eq_true] at h
  rcases h with h | h
  · obtain ⟨ds, e⟩ := Option.isSome_iff_exists.mp h
    obtain ⟨a, kvs, rfl, hr, _⟩ := dkOf_rep o r e
    exact ⟨a, rfl, .inl ⟨kvs, hr⟩⟩
  · obtain ⟨ds, e⟩ := Option.isSome_iff_exists.mp h
    obtain ⟨a, kvs, rfl, hr, _⟩ := dtOf_rep o r e
    exact ⟨a, rfl, .inr ⟨kvs, hr⟩⟩
theorem me_dget2 (hu : X.A.units + 1 < cLine) (ho : ME X E o fa) (hi : ME X E i fi) (hx : ME X E b fb) (m : M2 X o "get" apos i b cpos) : ME X E (.Call (.Attribute o "get" apos) [i, b] [] cpos) (mDGet2 fa fi fb) := by
  obtain ⟨t, p, q⟩ := ho.ex
  obtain ⟨t', p', q'⟩ := hi.ex
  obtain ⟨t2, p2, q2⟩ := hx.ex
  refine ⟨_, pe_dget2 hu p p' p2 m, fun sl σ w Q o s h => ?_⟩
  refine q sl σ w _ o s (post_bnd h fun x dx w1 o1 s1 rx h1 => ?_)
  cases hd : mDGet2.isDct w1.st dx with
  | false => simp only [hd] at h1; exact h1.elim
  | true =>
    simp only [hd] at h1
    obtain ⟨a0, rfl, isd⟩ := isDct_rep o1 rx hd
    refine ⟨a0, rfl, isd, ?_⟩
    refine q' sl σ w1 _ o1 (s.step s1) (post_bnd h1 fun y dy w2 o2 s2 ry h2 => ?_)
    refine q2 sl σ w2 _ o2 ((s.step s1).step s2) (post_bnd h2 fun z dz w3 o3 s3 rz h3 => ?_)
    have rx := (rx.mono s2.le s2.pre).mono s3.le s3.pre
    have ry := ry.mono s3.le s3.pre
    cases g : dGet w3.st dx dy with
    | none => simp only [g] at h3; exact h3.elim
    | some r =>
      simp only [g] at h3
      obtain ⟨a, rv, ea, hg, _, e, hd⟩ := dGet_rep o3 rx ry g
      cases ea
      refine ⟨rv, hg, ?_⟩
      cases r with
      | none =>
        cases rv with
        | none => exact post_ret o3 rz h3
        | some v => cases e
      | some d =>
        obtain ⟨v, rfl, rv⟩ := hd d rfl
        exact post_ret o3 rv h3
/-- {}: keys K (ints, texts) or T (tuples); a cell -/
def mDNewK : FE := fun _ st => ret (.ptr st.length) (st ++ [some (.dct [])])
def mDNewT : FE := fun _ st => ret (.ptr st.length) (st ++ [some (.dcT [])])
theorem ptr_new {w : Ws} (o : Ok K w) (p : Addr) (u : HO) (c : Cell) : Rep K (w.newC p u c).F (w.newC p u c).al (.ref p) (.ptr w.st.length) := .ptr (by
  show (w.al ++ [p])[w.st.length]? = some p
  rw [List.getElem?_append_right (by rw [o.len]; exact Nat.le_refl _), o.len, Nat.sub_self]; rfl)
theorem me_dnewK : ME X E (.Dict [] [] pos) mDNewK := ⟨_, pe_dnewK, fun sl σ w Q o s h p hp => h (.ref p) (w.newC p (.dK []) (.dct [])) rfl (ok_newC o hp (.dct upd_same rfl .nil)) (step_newC o hp _ _) (ptr_new o _ _ _)⟩
theorem me_dnewT : ME X E (.Dict [] [] pos) mDNewT := ⟨_, pe_dnewT, fun sl σ w Q o s h p hp => h (.ref p) (w.newC p (.dT []) (.dcT [])) rfl (ok_newC o hp (.dcT upd_same rfl .nil)) (step_newC o hp _ _) (ptr_new o _ _ _)⟩
/-- d[k] = v -/
def dPut (st : Sto) (x y v : D) : Option Sto := match x with
  | .ptr i => match y with
    | .tup ks => match cellT st i, keysOf ks with
      | some ds, some k => if ds.length < sizeLine then some (st.set i (some (.dcT (putD ds k v)))) else none
      | _, _ => none
    | y => match cellK st i, keyOf y with
      | some ds, some k => if ds.length < sizeLine then some (st.set i (some (.dct (putD ds k v)))) else none
      | _, _ => none
  | _ => none
def sDPut (fo fi fv : FE) : FS := fun sl st => bnd (fv sl st) fun v st => bnd (fo sl st) fun x st => bnd (fi sl st) fun y st => match dPut st x y v with
  | some st => ret (.nx sl) st
  | none => none
theorem dPut_rep {w : Ws} (o : Ok K w) {x y v : V} {dx dy dv : D} {st : Sto} (rx : Rep K w.F w.al x dx) (ry : Rep K w.F w.al y dy) (rv : Rep K w.F w.al v dv) (h : dPut w.st dx dy dv = some st) : ∃ a w1, x = .ref a ∧ DPut w.H a y v w1.H ∧ w1.st = st ∧ Ok K w1 ∧ Step w w1 := by
  cases dx with
  | ptr i =>
    have viaK : (match cellK w.st i, keyOf dy with
      | some ds, some k => if ds.length < sizeLine then some (w.st.set i (some (.dct (putD ds k dv)))) else none
      | _, _ => none) = some st → ∃ a w1, x = .ref a ∧ DPut w.H a y v w1.H ∧ w1.st = st ∧ Ok K w1 ∧ Step w w1 := fun h => by
      cases q : cellK w.st i with
      | none => rw [q] at h; cases h
      | some ds =>
        cases q2 : keyOf dy with
        | none => rw [q, q2] at h; cases h
        | some k =>
          simp only [q, q2] at h
          by_cases hl : ds.length < sizeLine
          · rw [if_pos hl] at h
            injection h with h
            obtain ⟨a, rfl, ea, _, ca⟩ := cell_at o rx (cellK_some q)
            have l : Live w.st i := ⟨_, cellK_some q⟩
            cases ca with
            | @dct kvs _ hx ek rs =>
              obtain ⟨p1, p2⟩ := put_rep (k := k) rv ek rs
              exact ⟨a, w.put i a (.dK (putK kvs k v)) (.dct (putD ds k dv)), rfl, .inl ⟨kvs, k, hx, keyOf_rep ry q2, by rw [len_key ek]; exact hl, rfl⟩, h, ok_put o l ea (.dct upd_same p1 p2), step_put o l ea _ _⟩
          · rw [if_neg hl] at h; cases h
    cases dy with
    | tup ks =>
      have h : (match cellT w.st i, keysOf ks with
        | some ds, some k => if ds.length < sizeLine then some (w.st.set i (some (.dcT (putD ds k dv)))) else none
        | _, _ => none) = some st := h
      cases q : cellT w.st i with
      | none => rw [q] at h; cases h
      | some ds =>
        cases q2 : keysOf ks with
        | none => rw [q, q2] at h; cases h
        | some k =>
          simp only [q, q2] at h
          by_cases hl : ds.length < sizeLine
          · rw [if_pos hl] at h
            injection h with h
            obtain ⟨a, rfl, ea, _, ca⟩ := cell_at o rx (cellT_some q)
            obtain ⟨b, xs, rfl, hb, rxs⟩ := ry.tup_inv
            have l : Live w.st i := ⟨_, cellT_some q⟩
            cases ca with
            | @dcT kvs _ hx ek rs =>
              obtain ⟨p1, p2⟩ := put_rep (k := k) rv ek rs
              exact ⟨a, w.put i a (.dT (putK kvs k v)) (.dcT (putD ds k dv)), rfl, .inr ⟨kvs, k, b, hx, rfl, by rw [← keysOf_rep rxs q2]; exact o.sub _ _ hb, by rw [len_key ek]; exact hl, rfl⟩, h, ok_put o l ea (.dcT upd_same p1 p2), step_put o l ea _ _⟩
          · rw [if_neg hl] at h; cases h
    | _ => exact viaK h
  | _ => cases h
theorem ms_dput {pos' : Pos} (hu : X.A.units + 1 < cLine) (ho : ME X E o fa) (hi : ME X E i fi) (hv : ME X E b fb) (hs : swapsWith b (some (.Subscript o i pos')) pos.line X.env = pure false := by rfl) : MS X E (.Assign [.Subscript o i pos'] b pos) (sDPut fa fi fb) := by
  obtain ⟨t, p, q⟩ := ho.ex
  obtain ⟨t', p', q'⟩ := hi.ex
  obtain ⟨t2, p2, q2⟩ := hv.ex
  refine ⟨_, ps_dput hu p p' p2 hs, fun sl σ w Q o s h => ?_⟩
  refine q2 sl σ w _ o s (post_bndS h fun v dv w1 o1 s1 rv h1 => ?_)
  refine q sl σ w1 _ o1 (s.step s1) (post_bndS h1 fun x dx w2 o2 s2 rx h2 => ?_)
  refine q' sl σ w2 _ o2 ((s.step s1).step s2) (post_bndS h2 fun y dy w3 o3 s3 ry h3 => ?_)
  have rx := rx.mono s3.le s3.pre
  have rv := (rv.mono s2.le s2.pre).mono s3.le s3.pre
  cases g : dPut w3.st dx dy dv with
  | none => simp only [g] at h3; exact h3.elim
  | some st =>
    simp only [g] at h3
    obtain ⟨a, w4, rfl, hp, e4, o4, s4⟩ := dPut_rep o3 rx ry rv g
    refine ⟨a, w4.H, rfl, hp, ?_⟩
    have h4 := PostS.step s4 h3
    rw [← e4] at h4
    exact postS_ret o4 h4 σ ((((s.step s1).step s2).step s3).step s4)
end
end M

namespace M
open PySem PySem.Spec L2
section
variable {X : Cx} {E : XK} {K : PySem.W.Frag} {a b c e o i : Expr} {es rest : List Expr} {fa fb fc fi : FE} {fs : FA} {ta tb tc : TE} {pos apos cpos p : Pos}
theorem me_gI {x : Str} {v : Int} (h : ∃ t, X.mg x = some (.int v t)) (hg : Gl X x := by rfl) (hd : (x == ("__debug__" : Str)) = false := by decide) : ME X E (.Name x pos) (mC (.int v)) := let ⟨_, e⟩ := h; me_globI hg e ⟨_, rfl⟩ hd
theorem me_gS {x : Str} {v : Str} (h : ∃ t, X.mg x = some (.str v t)) (hg : Gl X x := by rfl) (hd : (x == ("__debug__" : Str)) = false := by decide) : ME X E (.Name x pos) (mC (.str v)) := let ⟨_, e⟩ := h; me_globS hg e ⟨_, rfl⟩ hd
/-- a def of the text as a caller has it -/
structure Cal (P : Program) (w : World) (K : PySem.W.Frag) (mg : Str → Option Value) (base : Heap) (k : Nat) (x : Str) (ps : List Str) (m : List D → Sto → MM D) : Prop where
  ex : ∃ (f : Addr) (fd : FuncData), FnOk P w K mg base CX0 k f fd ps (spM K ps.length m) ∧ mg x = some (.ref f) ∧ PySem.W.keepIn K (.ref f) = true ∧ Binds K fd ps []
theorem me_cal {k : Nat} {x : Str} {ps : List Str} {m c : List D → Sto → MM D} (C : Cal X.prog X.w X.K X.mg X.base k x ps m) (hc : CallF X.K E ps.length m c) (hr : Room k X.A) (ha : MA X E (e :: es) fs) (hg : Gl X x := by rfl) (hdb : (x == ("__debug__" : Str)) = false := by decide)
    (he : starEach (e :: es) X.env = (false, eval e X.env) :: starEach es X.env := by rfl) (hpl : (backTo pos (starEach es X.env)).any (·.1) = false := by rfl) : ME X E (.Call (.Name x p) (e :: es) [] pos) (mCall c fs) := by
  obtain ⟨f, fd, F, h1, h2, h3⟩ := C.ex
  exact me_call F hc hr h1 h2 h3 (fun _ _ _ _ _ _ _ h => h.elim) ha hg hdb he hpl
/-- what promises nothing -/
theorem fn_none {P : Program} {w : World} {K : PySem.W.Frag} {mg : Str → Option Value} {base : Heap} {k : Nat} {f : Addr} {fd : FuncData} {ps : List Str} : FnOk P w K mg base CX0 k f fd ps (spM K ps.length fun _ _ => none) :=
  ⟨fun _ _ _ _ h => spM_len h, fun _ _ _ _ _ _ _ _ _ _ _ _ _ ⟨_, _, _, _, _, _, h⟩ => h.elim⟩
/-- what may be walked by a for: a list, a tuple, a text -/
def iAny (f : FE) : FA := fun sl st => bnd (f sl st) fun d st => match d with
  | .str x => ret (chrD x) st
  | .tup ds => ret ds st
  | d => match seqOf d with
    | some ds => ret ds st
    | none => none
theorem PI.or {X : Cx} {tg e : Expr} {w1 w2 : TI} (h1 : PI X tg e w1) (h2 : PI X tg e w2) : PI X tg e (fun σ H R => w1 σ H R ∨ w2 σ H R) := ⟨fun pins s σ H R I h => h.elim (h1.run pins s σ H R I) (h2.run pins s σ H R I)⟩
theorem mi_any {tg : Expr} (h : ME X E e fa) : MI X E tg e (iAny fa) := by
  obtain ⟨t1, p1, q1⟩ := (mi_list (tg := tg) h).ex
  obtain ⟨t2, p2, q2⟩ := (mi_tup (tg := tg) h).ex
  obtain ⟨t3, p3, q3⟩ := (mi_str (tg := tg) h).ex
  refine ⟨_, PI.or p1 (PI.or p2 p3), fun sl σ w R o s hp => ?_⟩
  have other : (∀ d st, fa sl w.st = some (.ok d st) → iAny fa sl w.st = iL fa sl w.st ∨ iAny fa sl w.st = iT fa sl w.st ∨ iAny fa sl w.st = iS fa sl w.st) := fun d st e => by
    unfold iAny iL iT iS
    rw [e]
    cases d with
    | str x => exact .inr (.inr rfl)
    | tup x => exact .inr (.inl rfl)
    | _ => exact .inl rfl
  cases hf : fa sl w.st with
  | none => unfold iAny at hp; rw [hf] at hp; exact hp.elim
  | some r =>
    cases r with
    | ok d st =>
      rcases other d st hf with z | z | z
      · rw [z] at hp; exact .inl (q1 sl σ w R o s hp)
      · rw [z] at hp; exact .inr (.inl (q2 sl σ w R o s hp))
      · rw [z] at hp; exact .inr (.inr (q3 sl σ w R o s hp))
    | exc x st =>
      have z : iAny fa sl w.st = iL fa sl w.st := by unfold iAny iL; rw [hf]; rfl
      rw [z] at hp; exact .inl (q1 sl σ w R o s hp)
/-! ### a, b = x, y -/
def sPar (i j : Nat) (f : FA) : FS := fun sl st => bnd (f sl st) fun ds st => match ds with
  | [x, y] => ret (.nx ((sl.set i (some x)).set j (some y))) st
  | _ => none
theorem ms_par {i j : Nat} {x y : Str} {px py pt : Pos} {kt k2 pt2} (hc : X.calm = true) (hN : X.N.Nodup) (ha : MA X E [a, b] fs) (hij : i ≠ j) (hi : X.N[i]? = some x := by rfl) (hj : X.N[j]? = some y := by rfl)
    (hx : X.env.scope.names.lookup x = some .local := by rfl) (hy : X.env.scope.names.lookup y = some .local := by rfl)
    (hw : swappedStores [.Tuple [.Name x px, .Name y py] kt pt] (.Tuple [a, b] k2 pt2) X.env = pure (some [x, y]) := by rfl)
    (hs : swapsWithSole [.Tuple [.Name x px, .Name y py] kt pt] (.Tuple [a, b] k2 pt2) pos.line X.env = pure false := by rfl) : MS X E (.Assign [.Tuple [.Name x px, .Name y py] kt pt] (.Tuple [a, b] k2 pt2) pos) (sPar i j fs) := by
  obtain ⟨t, p, q⟩ := ha.ex
  refine ⟨_, ps_par hc hN hi hj hij hx hy p hw hs, fun sl σ w D o s h => ?_⟩
  refine q sl σ w _ o s (post_bndS h fun vs ds w1 o1 s1 r hp => ?_)
  split at hp
  · obtain ⟨x, y, rfl, rx, ry⟩ := r.two_inv
    exact ⟨x, y, rfl, postS_ret o1 hp _ (((s.step s1).set rx).set ry)⟩
  · exact hp.elim
end
/-- the law: a plain run that ends in True -/
def spLaw (K : PySem.W.Frag) : Sp := fun vs H Q _ => ∃ (a : Addr) (ns : List Int), vs = [.ref a] ∧ SqL K H a (ns.map V.int) ∧ ns.length ≤ 63 ∧ ∀ H', Q (.bl true) H'
theorem law_of {P : Program} {w : World} {K : PySem.W.Frag} {mg : Str → Option Value} {base : Heap} {k : Nat} {f : Addr} {fd : FuncData} {ps : List Str} {m : List D → Sto → MM D} (F : FnOk P w K mg base CX0 k f fd ps (spM K 1 m)) (hm : ∀ ns : List Int, ns.length ≤ 63 → ∃ st, m [.scr ns] [] = some (.ok (.bl true) st)) :
    FnOk P w K mg base CX0 k f fd ps (spLaw K) := F.imp fun vs H Q E ⟨a, ns, e, h, hl, q⟩ => by
  subst e
  obtain ⟨st, e⟩ := hm ns hl
  refine ⟨⟨[], [], H, H⟩, [.scr ns], rfl, ⟨rfl, fun _ _ h => h, fun i c z => by simp at z, fun i j a ⟨c, z⟩ => by simp at z⟩, .cons (.scr h) .nil, rfl, ?_⟩
  show Post K E (rD K) _ (m [.scr ns] []) Q
  rw [e]
  intro v w' _ _ _ r
  rw [r.bl_inv]
  exact q _
end M

set_option maxHeartbeats 1000000
/-! Rules over the raw machine that the hand layer lacks. -/
namespace M
open PySem PySem.Spec PyProof.Rows L2
theorem LiI_get {α β : Type} {F : α → β → Prop} : ∀ {xs : List α} {ys : List β}, Paired F xs ys → ∀ {i : Nat} {x : α}, xs[i]? = some x → ∃ y, ys[i]? = some y ∧ F x y
  | _, _, .nil, i, x, h => by simp at h
  | _, _, .cons r t, 0, x, h => by
    have e := Option.some.inj h
    subst e
    exact ⟨_, rfl, r⟩
  | _, _, .cons r t, i + 1, x, h => LiI_get t h
def rKeysK : V → Hp → VK → Prop := fun x H Q => ∃ (d : Addr) (kvs : List (Key × V)), x = .ref d ∧ Rd H d (.dK kvs) ∧ ∀ p, H p = none → Q (.ref p) (upd H p (.lst (kvs.map fun kv => kV kv.1)))
def rKeysT : V → Hp → VK → Prop := fun x H Q => ∃ (d : Addr) (kvs : List (List Key × V)), x = .ref d ∧ Rd H d (.dT kvs) ∧ ∀ p bs, H p = none → IsKeys H kvs bs → Q (.ref p) (upd H p (.lst (bs.map V.ref)))
def tKeys (r : V → Hp → VK → Prop) (te : TE) : TE := fun σ H Q => te σ H fun x H1 => r x H1 Q
section
variable {X : Cx} {e : Expr} {te : TE} {p apos cpos pos : Pos}
theorem pgetK {kvs : List (Key × V)} {vs : List (Key × Value)} (r : KV kvs vs) {j : Nat} {x : Key × V} (h : kvs[j]? = some x) : ∃ y, vs[j]? = some y ∧ x.1 = y.1 ∧ RelV x.2 y.2 := LiI_get r h
/-- list(d.keys()) -/
theorem pe_listKeys (hc : X.calm = true) (he : PE X e te) (hm : X.mg "list" = none) (hg : Gl X "list" := by rfl) (hbase : attributeBase e "keys" X.env (eval e X.env) = eval e X.env := by rfl) (hline : (apos.endLine == cpos.line) = true := by rfl)
    (hs : starEach [.Call (.Attribute e "keys" apos) [] [] cpos] X.env = (false, eval (.Call (.Attribute e "keys" apos) [] [] cpos) X.env) :: starEach [] X.env := by rfl) :
    PE X (.Call (.Name "list" p) [.Call (.Attribute e "keys" apos) [] [] cpos] [] pos) (tKeys (fun x H Q => rKeysK x H Q ∨ rKeysT x H Q) te) := by
  refine ⟨fun pins s σ H Q I hq => ?_⟩
  refine wpAny_Call_Name_kw (ld_blt I hg hm (by decide +kernel : bootBuiltins "list" = some (.type "list")) ?_)
  refine PyProof.Rows.callWith_type1 ?_ hs rfl
  rw [hs]
  show wpAny _ _ (spliced ((false, eval (.Call (.Attribute e "keys" apos) [] [] cpos) X.env) :: backTo pos (starEach [] X.env))) _ _ s
  refine Calls.spliced_cons ?_
  refine wpAny_Call_method (T := "dict") (id := "dict.keys") hbase rfl hline F.plainAttrs_dict F.slot_dict_keys F.type_dict_keys (thn (he.run pins s σ H _ I hq) fun u s1 ⟨x, H1, I1, rx, h⟩ => ?_)
  have hd : ∃ d es ep, ∃ vs : List V, x = .ref d ∧ (d == sysModules) = false ∧ s1.heap.DictRaw d es ep ∧ es.size ≤ sizeLine ∧ vs.length ≤ sizeLine ∧ (∀ acc : Array Value, acc.size = es.size → (∀ j v, acc[j]? = some v → ∃ hi : j < es.size, v = es[j].key) → Vals vs acc.toList) ∧ ∀ p, H1 p = none → Q (.ref p) (upd H1 p (.lst vs)) := by
    rcases h with ⟨d, kvs, rfl, hd, q⟩ | ⟨d, kvs, rfl, hd, q⟩
    · obtain ⟨z, lo, vs, rel, dd⟩ := dk_rd I1.hok hd
      obtain ⟨es, ep, raw, hsz, hent⟩ := dd.raw
      refine ⟨d, es, ep, kvs.map fun kv => kV kv.1, rfl, lo, raw, by rw [hsz, ← rel.length]; exact z, by rw [List.length_map]; exact z, fun acc h1 h2 => ?_, q⟩
      refine vals_of_at (by have e1 := Paired.length rel; have e2 : acc.toList.length = acc.size := Array.length_toList; rw [List.length_map]; omega) fun j x v e1 e2 => ?_
      obtain ⟨hi, rfl⟩ := h2 j v (by rw [← Array.getElem?_toList]; exact e2)
      rw [List.getElem?_map] at e1
      cases ek : kvs[j]? with
      | none => rw [ek] at e1; cases e1
      | some kv =>
        rw [ek] at e1; cases e1
        obtain ⟨y, g1, g2, g3⟩ := pgetK rel ek
        obtain ⟨k', x'⟩ := y
        have g2 : kv.1 = k' := g2
        subst g2
        exact keyIs_rel (hent j hi _ _ g1).1
    · obtain ⟨z, lo, ks, pr, o, es, ep, ho, hx, hdt, hes, hn⟩ := (show ObjOk X.prog X.w H1 s1.heap d (.dT kvs) from hd.ok I1.hok)
      have hsz := size_of_entries hes
      refine ⟨d, es, ep, (ks.map fun x => x.2.1).map V.ref, rfl, lo, ⟨o, ho, hx, hdt⟩, by rw [hsz, ← Paired.length pr]; exact z, by rw [List.length_map, List.length_map, ← Paired.length pr]; exact z, fun acc h1 h2 => ?_, fun p hp => q p _ hp (isKeys_of pr)⟩
      refine vals_of_at (by have e2 : acc.toList.length = acc.size := Array.length_toList; rw [List.length_map, List.length_map]; omega) fun j x v e1 e2 => ?_
      obtain ⟨hi, rfl⟩ := h2 j v (by rw [← Array.getElem?_toList]; exact e2)
      rw [List.getElem?_map, List.getElem?_map] at e1
      cases ek : ks[j]? with
      | none => rw [ek] at e1; cases e1
      | some b =>
        rw [ek] at e1; cases e1
        have qe := entry_at hes j
        rw [Array.getElem?_eq_getElem hi, ek] at qe
        have e2 : es[j] = entryOfKey (tupleKind (mixKind X.prog X.w)) b := Option.some.inj qe
        rw [e2]
        rfl
  obtain ⟨d, es, ep, vs, rfl, lo, raw, hz, hzv, hvals, hq⟩ := hd
  obtain rfl : u = Value.ref d := rx
  have I2 : Inv X pins σ H1 { s1 with heap := s1.heap.push { cls := .type "dict_keys", data := .fields #[.ref d] } } := I1.kept (t' := s1.toks) fun b ob q => Heap.get?_push_of_some _ q
  refine ⟨raw.typeIs, fun a ea => by
    cases ea
    obtain ⟨o, ho, hx, _⟩ := raw
    exact ⟨o, ho, hx.2.1⟩, ?_⟩
  show wpAny _ _ (callWith cpos (.builtin "dict.keys") [.ref d] [] []) _ X.xe s1
  refine method_meetsIn F.slot_dict_keys F.entry_dict_keys rfl (PySem.evalArgs_none ⟨rfl, raw.typeIs, F.args_dict_keys_1 _, _, meets_dict_keys_raw d lo, ⟨es, ep, raw⟩, ?_⟩)
  refine Calls.spliced_nil ?_
  refine PySem.W.kdl_call (KdlSrc.rawKeys (r := s1.heap.objs.size) (d := d) (es := es) (ep := ep)) (I1.ok.hd hc) ⟨⟨_, Heap.get?_push_size _ rfl, rfl, rfl⟩, raw.at fun o e => Heap.get?_push_of_some _ e⟩ hz fun h' tk acc c hk hS hacc => ?_
  refine ⟨.ref _, upd H1 _ (.lst vs), I2.laid (t' := tk) hk (Nat.le_refl _) (show ObjOk X.prog X.w _ _ _ (.lst vs) from ⟨hzv, acc.toList, c, hvals acc hacc.1 hacc.2, by rw [Array.toArray_toList]; exact hS⟩), rfl, hq _ (I2.hok.fresh (Nat.le_refl _))⟩
end
end M

set_option maxHeartbeats 1000000
/-! max(xs, default=d), min(xs, default=d) over a list of whole numbers. -/
namespace M
open PySem PySem.Spec PyProof.Rows L2
namespace Mx
section
variable {prog : Program} {w : World} {A : Around} {R : Result → Shared → Prop} {J : Addr} {fp wr : List Addr} {n : Nat} {P : Nat → Value → Prop} {G : Nat → Heap → Prop} {kw : List (Str × Value)}
theorem maxTurns (W : Walks prog w A.in1 J fp wr n P G) (bt : Nat → Nat → Bool) (cmp : CmpOf prog w A.in1 .Gt P bt) (B : Addr) (nB : B ∉ fp) : ∀ (k j : Nat) (s : Shared) (u : Value) (c : Nat), n - (j + 1) = k → j + 1 ≤ n → G (j + 1) s.heap → P (argBest bt j) u →
    s.heap.get? B = some { cls := .type "list", dict := none, data := .seq #[u, u] c, slots := #[] } →
    (∀ v h' tk, P (argBest bt (n - 1)) v → (∀ b o, b ∉ wr → b ≠ B → s.heap.get? b = some o → h'.get? b = some o) → R (.ok (.ret v)) { s with heap := h', toks := tk }) → codeAny (model prog w) A (.builtin "max.loop" ⟨[.ref J, .none, .ref B], kw⟩) R s := by
  have wB : B ∉ wr := fun z => nB (W.sub _ z)
  have nm : (toString "max" ++ toString ".loop" : String) = "max.loop" := by decide
  intro k
  induction k with
  | zero =>
    intro j s u c hk hj hG hP hB hR
    have ej : j + 1 = n := by omega
    refine codeAny_builtin F.entry_max_loop ?_
    rw [Around.under_plainId F.plain_max_loop _]
    show wpAny _ _ (seqItems? (Value.ref B) >>= _) _ _ _
    refine wpAny_bind (wpAny_seqItems hB rfl ?_)
    show wpAny _ _ (tryCatch (pyNext (Value.ref J)) _ >>= _) _ _ _
    refine wpAny_bind (wpAny_tryCatch (W.done s _ _ (ej ▸ hG) fun h1 tk k1 => ?_))
    have hB1 := k1 B _ wB hB
    show wpAny _ _ (updateSeq B (fun _ => #[]) >>= _) _ _ _
    refine wpAny_bind (wpAny_updateSeq hB1 rfl (wpAny_bind (wpAny_letGo (wpAny_pure ?_))))
    exact hR u _ tk (by rw [← ej]; exact hP) fun b o n1 n2 e => (Heap.get?_update_other _ _ (Ne.symm n2)).trans (k1 b o n1 e)
  | succ k ih =>
    intro j s u c hk hj hG hP hB hR
    have lt : j + 1 < n := by omega
    refine codeAny_builtin F.entry_max_loop ?_
    rw [Around.under_plainId F.plain_max_loop _]
    show wpAny _ _ (seqItems? (Value.ref B) >>= _) _ _ _
    refine wpAny_bind (wpAny_seqItems hB rfl ?_)
    show wpAny _ _ (tryCatch (pyNext (Value.ref J)) _ >>= _) _ _ _
    refine wpAny_bind (wpAny_tryCatch (W.item (j + 1) s _ _ lt hG fun v h1 tk hv hG1 k1 => ?_))
    have hB1 := k1 B _ wB hB
    show wpAny _ _ (tryCatch (holding [v, v] (richCompare CmpOp.Gt v u >>= _)) _ >>= _) _ _ _
    refine wpAny_bind (wpAny_tryCatch (wpAny_holding (wpAny_bind (cmp (j + 1) (argBest bt j) v u _ _ _ hv hP ?_))))
    refine wpAny_bind (wpAny_holding (wpAny_truthy_bool ?_))
    refine wpAny_bind (wpAny_letGo (wpAny_pure ?_))
    cases hb : bt (j + 1) (argBest bt j) with
    | true =>
      simp only [if_true]
      refine wpAny_bind (wpAny_updateSeq hB1 rfl (wpAny_bind (wpAny_letGo ?_)))
      rw [nm]
      refine wpAny_pure ⟨plainId_quiet F.plain_max_loop _, ih (j + 1) _ v _ (by omega) lt (W.frame _ _ _ hG1 fun b nb o e => (Heap.get?_update_other _ _ (fun z : B = b => nB (by rw [z]; exact nb))).trans e) (by simp only [argBest, hb, if_true]; exact hv) (Heap.get?_update_self _ hB1 rfl) fun v2 h2 tk2 hv2 k2 => ?_⟩
      exact hR v2 h2 tk2 hv2 fun b o n1 n2 e => k2 b o n1 n2 ((Heap.get?_update_other _ _ (Ne.symm n2)).trans (k1 b o n1 e))
    | false =>
      simp only [Bool.false_eq_true, if_false]
      refine wpAny_bind (wpAny_letGo ?_)
      rw [nm]
      refine wpAny_pure ⟨plainId_quiet F.plain_max_loop _, ih (j + 1) _ u c (by omega) lt hG1 (by simp only [argBest, hb, Bool.false_eq_true, if_false]; exact hP) hB1 fun v2 h2 tk2 hv2 k2 => ?_⟩
      exact hR v2 h2 tk2 hv2 fun b o n1 n2 e => k2 b o n1 n2 (k1 b o n1 e)
theorem maxFirst (W : Walks prog w A.in1 J fp wr n P G) (bt : Nat → Nat → Bool) (cmp : CmpOf prog w A.in1 .Gt P bt) (B : Addr) (nB : B ∉ fp) (d : Value) {s : Shared} {c : Nat} (hG : G 0 s.heap)
    (hB : s.heap.get? B = some { cls := .type "list", dict := none, data := .seq #[] c, slots := #[] })
    (hR : ∀ v h' tk, (if n = 0 then v = d else P (argBest bt (n - 1)) v) → (∀ b o, b ∉ wr → b ≠ B → s.heap.get? b = some o → h'.get? b = some o) → R (.ok (.ret v)) { s with heap := h', toks := tk }) :
    codeAny (model prog w) A (.builtin "max.loop" ⟨[.ref J, .none, .ref B], [("default", d)]⟩) R s := by
  have wB : B ∉ wr := fun z => nB (W.sub _ z)
  have nm : (toString "max" ++ toString ".loop" : String) = "max.loop" := by decide
  refine codeAny_builtin F.entry_max_loop ?_
  rw [Around.under_plainId F.plain_max_loop _]
  show wpAny _ _ (seqItems? (Value.ref B) >>= _) _ _ _
  refine wpAny_bind (wpAny_seqItems hB rfl ?_)
  show wpAny _ _ (tryCatch (pyNext (Value.ref J)) _ >>= _) _ _ _
  by_cases hn : n = 0
  · refine wpAny_bind (wpAny_tryCatch (W.done s _ _ (hn ▸ hG) fun h1 tk k1 => ?_))
    refine wpAny_bind ?_
    refine wpAny_rule ?_
    refine wpAny_pure ?_
    exact hR d h1 tk (by rw [if_pos hn]) fun b o n1 n2 e => k1 b o n1 e
  · refine wpAny_bind (wpAny_tryCatch (W.item 0 s _ _ (by omega) hG fun v h1 tk hv hG1 k1 => ?_))
    have hB1 := k1 B _ wB hB
    show wpAny _ _ (updateSeq B (fun _ => #[v, v]) >>= _) _ _ _
    refine wpAny_bind (wpAny_updateSeq hB1 rfl ?_)
    rw [nm]
    refine wpAny_pure ⟨plainId_quiet F.plain_max_loop _, maxTurns W bt cmp B nB _ 0 _ v _ rfl (by omega) (W.frame _ _ _ hG1 fun b nb o e => (Heap.get?_update_other _ _ (fun z : B = b => nB (by rw [z]; exact nb))).trans e) hv (Heap.get?_update_self _ hB1 rfl) fun v2 h2 tk2 hv2 k2 => ?_⟩
    exact hR v2 h2 tk2 (by rw [if_neg hn]; exact hv2) fun b o n1 n2 e => k2 b o n1 n2 ((Heap.get?_update_other _ _ (Ne.symm n2)).trans (k1 b o n1 e))
theorem argsD (a d : Value) : argsOk "max" ⟨[a], [("default", d)]⟩ := by unfold argsOk; kernel_rfl
theorem call_maxD {prog : Program} {w : World} {A : Around} {E : Value → Shared → Prop} {s : Shared} {l : Addr} {xs : Array (Int × Tok)} {d : Value} {Q : Value → Shared → Prop} (hh : A.handled = none) (hl : s.heap.IsList l (intItems xs))
    (h : ∀ v h' tk, (if xs.size = 0 then v = d else (intItems xs)[argBest (fun i j => decide (numAt xs i > numAt xs j)) (xs.size - 1)]? = some v) → (∀ b o, s.heap.get? b = some o → h'.get? b = some o) → Q v { s with heap := h', toks := tk }) :
    wpAny (model prog w) A (call (.builtin "max") [.ref l] [("default", d)]) Q E s := by
  have nm : (toString "max" ++ toString ".loop" : String) = "max.loop" := by decide
  refine wpAny_call (codeAny_call_builtin F.plain_max F.entry_max ?_)
  simp only [checkBuiltinCall, F.kind_max]
  have main : wpAny (model prog w) A.in1 (Builtin.«max» ⟨[.ref l], [("default", d)]⟩) (fun fin s' => match fin with
      | .done f => (match (Except.ok f : Result) with | .ok (.ret v) => Q v s' | .ok _ => False | .error e => E e s')
      | .again c' => c'.quiet = true ∧ codeAny (model prog w) A c' (fun r s' => match r with | .ok (.ret v) => Q v s' | .ok _ => False | .error e => E e s') s') E s := by
    show wpAny _ A.in1 (Builtin.Builtins.bindParams "max" ["key", "default"] 0 ⟨[], [("default", d)]⟩ >>= _) _ _ s
    refine wpAny_bind (wpAny_of_eq (show Builtin.Builtins.bindParams "max" ["key", "default"] 0 ⟨[], [("default", d)]⟩ = pure [none, some d] by kernel_rfl) ?_)
    refine wpAny_bind (wpAny_pure ?_)
    refine wpAny_bind (iter_intList hl fun s₂ e st hfp hlI => ?_)
    subst e
    refine wpAny_bind (wpAny_newObj_type ?_)
    rw [nm]
    have nf : (s.heap.push { cls := .type "list_iterator", data := .fields #[.ref l, .int 0 0] }).objs.size ∉ [s.heap.objs.size, l] := fun z => Nat.lt_irrefl _ (hfp _ z)
    have W := Walks.list (prog := prog) (w := w) (A := A.in1) hh s.heap.objs.size l hlI (intItems xs)
    refine wpAny_pure ⟨plainId_quiet F.plain_max_loop _, Mx.maxFirst W (fun i j => decide (numAt xs i > numAt xs j)) (CmpOf.ints_gt (numAt xs) (fun _ _ => intItems_at)) _ nf d (W.frame _ _ _ st fun b _ o e => Heap.get?_push_of_some _ e) (Heap.get?_push_size _ rfl) fun v h' tk hP hk => ?_⟩
    have ez : (intItems xs).size = xs.size := by simp [intItems]
    rw [ez] at hP
    refine h v h' tk hP fun b o e => hk b o (fun z => ?_) (Nat.ne_of_lt (Nat.lt_trans (Heap.lt_size e) (by rw [Heap.size_push]; exact Nat.lt_succ_self _))) (Heap.get?_push_of_some _ (Heap.get?_push_of_some _ e))
    have z' : b = s.heap.objs.size := by simpa using z
    exact absurd (Heap.lt_size e) (by rw [z']; exact Nat.lt_irrefl _)
  cases hsig : Manifest.signature? "max" with
  | none => exact wpAny_pure main
  | some sig =>
    have ha := argsD (.ref l) d
    simp only [argsOk, hsig] at ha
    have h2 : Bind.checkArgs "max" sig ⟨[.ref l], [("default", d)]⟩ = pure () := ha
    show wpAny _ A.in1 (Bind.checkArgs "max" sig ⟨[.ref l], [("default", d)]⟩) _ _ s
    rw [h2]; exact wpAny_pure main
end
end Mx
/-- the greatest of a list of whole numbers, d if it is empty -/
def rMaxD (K : PySem.W.Frag) : List V → List V → Hp → VK → Prop := fun vs zs H Q => ∃ (a : Addr) (ns : List Int) (d : V), vs = [V.ref a] ∧ zs = [d] ∧ SqL K H a (ns.map V.int) ∧ (ns = [] → Q d H) ∧ ∀ m, m ∈ ns → (∀ y, y ∈ ns → y ≤ m) → Q (.int m) H
theorem cr_maxD {X : Cx} (hc : X.calm = true) : CallRK X (.builtin "max") [Str.ofString "default"] (rMaxD X.K) := by
  intro pins s σ H vs zs us ws Q I r rz h
  obtain ⟨a, ns, d, rfl, rfl, hs, q0, q⟩ := h
  obtain ⟨its, rv, hl, _⟩ := I.list hs
  rw [Vals.ref1 r]
  obtain ⟨dv, rfl, rd⟩ := vals1 rz
  obtain ⟨xs, e⟩ := rv.ints.allInts.items
  have hn : numsOf (intItems xs).toList = ns := by rw [← e]; exact rv.ints.numsOf
  rw [nums_intItems] at hn
  have hl' := hl.isList
  rw [e] at hl'
  refine Mx.call_maxD (I.ok.hd hc) hl' fun v h' tk hP hk => ?_
  have hlen : ns.length = xs.size := by rw [← hn, List.length_map, Array.length_toList]
  by_cases hz : xs.size = 0
  · rw [if_pos hz] at hP
    subst hP
    have e0 : ns = [] := List.length_eq_zero_iff.mp (by omega)
    exact ⟨d, H, I.kept hk, rd, q0 e0⟩
  · rw [if_neg hz] at hP
    obtain ⟨t, rfl⟩ := intItems_at hP
    obtain ⟨h1, h2⟩ := argBest_gt (numAt xs) (xs.size - 1)
    refine ⟨.int _, H, I.kept hk, ⟨t, rfl⟩, q _ ?_ fun y hy => ?_⟩
    · rw [numAt_eq, hn]; exact PySem.getD_mem (by omega)
    · rw [← hn] at hy
      obtain ⟨j, hj, rfl⟩ := mem_getD hy
      rw [List.length_map, Array.length_toList] at hj
      rw [← numAt_eq]; exact h2 j (by omega)
end M

namespace M
open PySem PySem.Spec L2
/-- a key as a datum -/
def kD : Key → D
  | .inl i => .int i
  | .inr s => .str s
theorem rep_kD {K : PySem.W.Frag} {F : Hp} {α : List Addr} (k : Key) : Rep K F α (kV k) (kD k) := by
  cases k with
  | inl i => exact .int i
  | inr s => exact .str s
theorem reps_kD {K : PySem.W.Frag} {F : Hp} {α : List Addr} : ∀ ks : List Key, Reps K F α (ks.map kV) (ks.map kD)
  | [] => .nil
  | k :: r => .cons (rep_kD k) (reps_kD r)
/-- tuples that stand in the heap are learnt, all of them -/
theorem learn_all {K : PySem.W.Frag} : ∀ (bs : List Addr) (ks : List (List Key)) (w : Ws), Ok K w → Paired (fun (k : List Key) (b : Addr) => w.H b = some (.tup (k.map kV))) ks bs →
    ∃ w1, w1.st = w.st ∧ w1.H = w.H ∧ Ok K w1 ∧ Step w w1 ∧ Reps K w1.F w1.al (bs.map V.ref) (ks.map fun k => .tup (k.map kD))
  | _, _, w, o, .nil => ⟨w, rfl, rfl, o, Step.refl w, .nil⟩
  | _, _, w, o, .cons (b := b) (l₁ := ks) (l₂ := bs) h t => by
    have o1 := ok_learn o h
    have s1 := step_learn o h
    obtain ⟨w1, e1, e2, o2, s2, r⟩ := learn_all _ _ (w.learn b _) o1 t
    refine ⟨w1, e1, e2, o2, s1.trans s2, .cons ?_ r⟩
    exact .tup (s2.le.tup _ _ (show upd w.F b _ b = _ from upd_same)) (reps_kD _)
def keysD (st : Sto) (x : D) : Option (List D) := match dkOf st x with
  | some ds => some (ds.map fun p => kD p.1)
  | none => match dtOf st x with
    | some ds => some (ds.map fun p => .tup (p.1.map kD))
    | none => none
section
variable {X : Cx} {E : XK} {K : PySem.W.Frag} {a b c e o i : Expr} {es rest : List Expr} {fa fb fc fi : FE} {fs : FA} {ta tb tc : TE} {pos apos cpos p : Pos}
def mKeys (c : Bool) (f : FE) : FE := fun sl st => bnd (f sl st) fun x st => match keysD st x with
  | some ds => mkL c ds st
  | none => none
theorem me_listKeys (c : Bool) (hc : X.calm = true) (he : ME X E e fa) (hm : X.mg "list" = none) (hg : Gl X "list" := by rfl) (hbase : attributeBase e "keys" X.env (eval e X.env) = eval e X.env := by rfl) (hline : (apos.endLine == cpos.line) = true := by rfl)
    (hs : starEach [.Call (.Attribute e "keys" apos) [] [] cpos] X.env = (false, eval (.Call (.Attribute e "keys" apos) [] [] cpos) X.env) :: starEach [] X.env := by rfl) :
    ME X E (.Call (.Name "list" p) [.Call (.Attribute e "keys" apos) [] [] cpos] [] pos) (mKeys c fa) := by
  obtain ⟨t, p, q⟩ := he.ex
  refine ⟨_, pe_listKeys hc p hm hg hbase hline hs, fun sl σ w Q o s h => ?_⟩
  refine q sl σ w _ o s (post_bnd h fun x dx w1 o1 s1 rx hp => ?_)
  unfold keysD at hp
  cases h1 : dkOf w1.st dx with
  | some ds =>
    simp only [h1] at hp
    obtain ⟨d, kvs, rfl, hr, ek, rs⟩ := dkOf_rep o1 rx h1
    refine .inl ⟨d, kvs, rfl, hr, fun p np => post_mkL o1 hp np ?_⟩
    have e1 : (kvs.map fun kv => kV kv.1) = (ds.map (·.1)).map kV := by rw [← ek, List.map_map]; rfl
    have e2 : (ds.map fun p => kD p.1) = (ds.map (·.1)).map kD := by rw [List.map_map]; rfl
    rw [e1, e2]
    exact reps_kD _
  | none =>
    simp only [h1] at hp
    cases h2 : dtOf w1.st dx with
    | none => simp only [h2] at hp; exact hp.elim
    | some ds =>
      simp only [h2] at hp
      obtain ⟨d, kvs, rfl, hr, ek, rs⟩ := dtOf_rep o1 rx h2
      refine .inr ⟨d, kvs, rfl, hr, fun p bs np hk => ?_⟩
      have hk2 : Paired (fun (k : List Key) (b : Addr) => w1.H b = some (.tup (k.map kV))) (ds.map (·.1)) bs := by
        rw [← ek]
        clear hp ek rs hr h1 h2
        induction hk with
        | nil => exact .nil
        | cons h _ ih => exact .cons h ih
      obtain ⟨w2, e1, e2, o2, s2, r⟩ := learn_all _ _ w1 o1 hk2
      have e3 : (ds.map fun p => D.tup (p.1.map kD)) = (ds.map (·.1)).map fun k => .tup (k.map kD) := by rw [List.map_map]; rfl
      rw [← e2]
      refine post_mkL (c := c) (E := E) o2 (Post.step s2 ?_) (by rw [e2]; exact np) r
      rw [e1, ← e3]; exact hp
/-! ### plain data for the library's own orders -/
mutual
def py : D → Option PyData
  | .non => some .none
  | .bl b => some (.bool b)
  | .int i => some (.int i)
  | .str s => some (.str s)
  | .tup ds => (pys ds).map .tuple
  | .lst ds => (pys ds).map .list
  | .dct _ => none
  | .dcT _ => none
  | .ptr _ => none
  | .scr _ => none
def pys : List D → Option (List PyData)
  | [] => some []
  | d :: r => match py d, pys r with
    | some x, some xs => some (x :: xs)
    | _, _ => none
end
mutual
theorem py_rep {w : Ws} (o : Ok K w) : ∀ {v : V} {d : D} {x : PyData}, Rep K w.F w.al v d → py d = some x → Dp K w.H v x
  | _, _, _, .non, h => by rw [py] at h; cases h; exact .non
  | _, _, _, .bl b, h => by rw [py] at h; cases h; exact .bl b
  | _, _, _, .int i, h => by rw [py] at h; cases h; exact .int i
  | _, _, _, .str s, h => by rw [py] at h; cases h; exact .str s
  | _, _, _, .tup (ds := ds) f r, h => by
    rw [py] at h
    cases q : pys ds with
    | none => rw [q] at h; cases h
    | some xs => rw [q] at h; cases h; exact .tup (SqT.of (o.sub _ _ f)) (pys_rep o r q)
  | _, _, _, .lst (ds := ds) f r, h => by
    rw [py] at h
    cases q : pys ds with
    | none => rw [q] at h; cases h
    | some xs => rw [q] at h; cases h; exact .lst (SqL.of (o.sub _ _ f)) (pys_rep o r q)
  | _, _, _, .dct _ _ _, h => by rw [py] at h; cases h
  | _, _, _, .dcT _ _ _, h => by rw [py] at h; cases h
  | _, _, _, .ptr _, h => by rw [py] at h; cases h
  | _, _, _, .scr _, h => by rw [py] at h; cases h
theorem pys_rep {w : Ws} (o : Ok K w) : ∀ {vs : List V} {ds : List D} {xs : List PyData}, Reps K w.F w.al vs ds → pys ds = some xs → DpAll K w.H vs xs
  | _, _, _, .nil, h => by rw [pys] at h; cases h; exact .nil
  | _, _, _, .cons (d := d) (ds := ds) r rs, h => by
    rw [pys] at h
    cases q : py d with
    | none => simp only [q] at h; cases h
    | some x =>
      cases q2 : pys ds with
      | none => simp only [q, q2] at h; cases h
      | some xs => simp only [q, q2] at h; cases h; exact .cons (py_rep o r q) (pys_rep o rs q2)
end
/-- .. also of a list that is a cell, or the script -/
def pyT (st : Sto) (d : D) : Option PyData := match d with
  | .ptr i => match cellL st i with
    | some ds => (pys ds).map .list
    | none => none
  | .scr ns => some (.list (ns.map .int))
  | d => py d
theorem pyT_rep {w : Ws} (o : Ok K w) {v : V} {d : D} {x : PyData} (r : Rep K w.F w.al v d) (h : pyT w.st d = some x) : Dp K w.H v x := by
  cases d with
  | ptr i =>
    have h' : (match cellL w.st i with
      | some ds => (pys ds).map PyData.list
      | none => none) = some x := h
    cases q : cellL w.st i with
    | none => rw [q] at h'; cases h'
    | some ds =>
      simp only [q] at h'
      cases q2 : pys ds with
      | none => rw [q2] at h'; cases h'
      | some xs =>
        rw [q2] at h'; cases h'
        obtain ⟨a, vs, rfl, _, _, hx, rs⟩ := cell_lst o r q
        exact .lst (SqL.of hx) (pys_rep o rs q2)
  | scr ns =>
    have h' : some (PyData.list (ns.map .int)) = some x := h
    cases h'
    obtain ⟨a, rfl, s⟩ := r.scr_inv
    refine .lst (sub_sqL o s) ?_
    have all : ∀ ns : List Int, DpAll K w.H (ns.map V.int) (ns.map PyData.int) := fun ns => by
      induction ns with
      | nil => exact .nil
      | cons n r ih => exact .cons (.int n) ih
    exact all ns
  | _ => exact py_rep o r h
def gEqD (neg : Bool) : Sto → D → D → MM D := fun st x y => match pyT st x, pyT st y with
  | some a, some b => if SeqAt.shaped a = true ∧ SeqAt.shaped b = true then ret (.bl (if neg then !PyData.eqv a b else PyData.eqv a b)) st else none
  | _, _ => none
theorem rf_eqD : Rf2 K E (rEqD K) (gEqD false) := fun x y dx dy w Q o rx ry hp => by
  unfold gEqD at hp
  cases h1 : pyT w.st dx with
  | none => simp only [h1] at hp; exact hp.elim
  | some u =>
    cases h2 : pyT w.st dy with
    | none => simp only [h1, h2] at hp; exact hp.elim
    | some v =>
      simp only [h1, h2] at hp
      obtain ⟨⟨p1, p2⟩, hp⟩ := post_ite hp
      exact ⟨u, v, pyT_rep o rx h1, pyT_rep o ry h2, p1, p2, post_ret o (.bl _) hp⟩
theorem rf_neD : Rf2 K E (rNeD K) (gEqD true) := fun x y dx dy w Q o rx ry hp => by
  unfold gEqD at hp
  cases h1 : pyT w.st dx with
  | none => simp only [h1] at hp; exact hp.elim
  | some u =>
    cases h2 : pyT w.st dy with
    | none => simp only [h1, h2] at hp; exact hp.elim
    | some v =>
      simp only [h1, h2] at hp
      obtain ⟨⟨p1, p2⟩, hp⟩ := post_ite hp
      exact ⟨u, v, pyT_rep o rx h1, pyT_rep o ry h2, p1, p2, post_ret o (.bl _) hp⟩
/-! ### isinstance(x, T), T a built-in type -/
def tyOf (st : Sto) : D → Option String
  | .non => some "NoneType"
  | .bl _ => some "bool"
  | .int _ => some "int"
  | .str _ => some "str"
  | .tup _ => some "tuple"
  | .lst _ => some "list"
  | .scr _ => none
  | .dct _ => none
  | .dcT _ => none
  | .ptr i => match cellL st i with
    | some _ => some "list"
    | none => none
theorem tyOf_rep {w : Ws} (o : Ok K w) {v : V} {d : D} {n : String} (r : Rep K w.F w.al v d) (h : tyOf w.st d = some n) : TyX K w.H v (.type n) := by
  cases d with
  | non => cases h; cases r; exact .base .non
  | bl b => cases h; cases r; exact .base (.bl b)
  | int b => cases h; cases r; exact .base (.int b)
  | str b => cases h; cases r; exact .base (.str b)
  | tup ds => cases h; obtain ⟨a, xs, rfl, f, _⟩ := r.tup_inv; exact .base (.tup (o.sub _ _ f))
  | lst ds => cases h; obtain ⟨a, xs, rfl, f, _⟩ := r.lst_inv; exact .base (.lst (o.sub _ _ f))
  | ptr i =>
    have h' : (match cellL w.st i with
      | some _ => some "list"
      | none => none) = some n := h
    cases q : cellL w.st i with
    | none => rw [q] at h'; cases h'
    | some ds =>
      rw [q] at h'; cases h'
      obtain ⟨a, vs, rfl, _, _, hx, _⟩ := cell_lst o r q
      exact .base (.lst hx)
  | _ => cases h
def gIsi (T : String) : Sto → D → MM D := fun st x => match tyOf st x with
  | some n => match kitB n T with
    | some b => ret (.bl b) st
    | none => none
  | none => none
theorem me_isi {T : String} {x : Str} {p2 : Pos} (hm : X.mg "isinstance" = none) (hmT : X.mg x = none) (ha : ME X E e fa) (hvT : bootBuiltins x = some (.type T) := by decide +kernel) (hg : Gl X "isinstance" := by rfl) (hgT : Gl X x := by rfl) (hnT : x ≠ "__name__" := by decide) (hdT : (x == ("__debug__" : Str)) = false := by decide)
    (he : starEach [e, .Name x p2] X.env = (false, eval e X.env) :: starEach [.Name x p2] X.env := by rfl) (he2 : starEach [.Name x p2] X.env = (false, eval (.Name x p2) X.env) :: starEach [] X.env := by rfl) (hpl : (backTo pos (starEach [.Name x p2] X.env)).any (·.1) = false := by rfl) :
    ME X E (.Call (.Name "isinstance" p) [e, .Name x p2] [] pos) (mUn (gIsi T) fa) := by
  obtain ⟨t, p, q⟩ := ha.ex
  refine ⟨_, pe_callB call_isi hg hm (by decide +kernel) (pa_cons p (pa_cons (pe_bltn hgT hmT hvT (v := .ty T) rfl hnT hdT) pa_nil he2) he) (by decide) (by decide) he hpl, fun sl σ w Q o s h => ?_⟩
  refine q sl σ w _ o s (post_bnd h fun v dv w1 o1 s1 r hp => ?_)
  show rIsi X.K [v, .ty T] w1.H Q
  unfold gIsi at hp
  cases h1 : tyOf w1.st dv with
  | none => simp only [h1] at hp; exact hp.elim
  | some n =>
    cases h2 : kitB n T with
    | none => simp only [h1, h2] at hp; exact hp.elim
    | some b =>
      simp only [h1, h2] at hp
      exact ⟨v, .ty T, .type n, .type T, b, rfl, .ty T, tyOf_rep o1 r h1, kit_ty h2, post_ret o1 (.bl b) hp⟩
/-! ### the greatest of a list of whole numbers -/
def intsOf : List D → Option (List Int)
  | [] => some []
  | d :: r => match d, intsOf r with
    | .int i, some is => some (i :: is)
    | _, _ => none
theorem intsOf_rep {F : Hp} {α : List Addr} : ∀ {vs : List V} {ds : List D} {is : List Int}, Reps K F α vs ds → intsOf ds = some is → vs = is.map V.int
  | _, _, _, .nil, h => by cases h; rfl
  | _, _, is, .cons (v := v) (d := d) (vs := vs) (ds := ds) r rs, h => by
    cases d with
    | int i =>
      have h' : (match intsOf ds with
        | some is => some (i :: is)
        | none => none) = some is := by
        have : intsOf (.int i :: ds) = (match D.int i, intsOf ds with
          | .int i, some is => some (i :: is)
          | _, _ => none) := rfl
        rw [this] at h
        cases q : intsOf ds with
        | none => rw [q] at h; cases h
        | some is2 => rw [q] at h; exact h
      cases q : intsOf ds with
      | none => rw [q] at h'; cases h'
      | some is2 =>
        rw [q] at h'; cases h'
        rw [r.int_inv, intsOf_rep rs q]; rfl
    | _ => cases h
theorem intsOf_map : ∀ is : List Int, intsOf (is.map .int) = some is
  | [] => rfl
  | i :: r => by
    show (match D.int i, intsOf (r.map .int) with
      | .int i, some is => some (i :: is)
      | _, _ => none) = _
    rw [intsOf_map r]
def maxOf : List Int → Int
  | [] => 0
  | [a] => a
  | a :: b :: r => max a (maxOf (b :: r))
theorem maxOf_mem : ∀ {is : List Int}, is ≠ [] → maxOf is ∈ is ∧ ∀ y ∈ is, y ≤ maxOf is
  | [], h => absurd rfl h
  | [a], _ => by simp [maxOf]
  | a :: b :: r, _ => by
    obtain ⟨h1, h2⟩ := maxOf_mem (is := b :: r) (by simp)
    show max a (maxOf (b :: r)) ∈ _ ∧ ∀ y ∈ _, y ≤ max a (maxOf (b :: r))
    refine ⟨?_, fun y hy => ?_⟩
    · by_cases z : a ≤ maxOf (b :: r)
      · rw [Int.max_eq_right z]; exact List.mem_cons_of_mem _ h1
      · rw [Int.max_eq_left (by omega)]; exact List.mem_cons_self
    · rcases List.mem_cons.mp hy with rfl | hy
      · exact Int.le_max_left _ _
      · exact Int.le_trans (h2 y hy) (Int.le_max_right _ _)
theorem maxOf_is {is : List Int} {m : Int} (h1 : m ∈ is) (h2 : ∀ y ∈ is, y ≤ m) : m = maxOf is := by
  have hn : is ≠ [] := fun z => by rw [z] at h1; simp at h1
  obtain ⟨g1, g2⟩ := maxOf_mem hn
  exact Int.le_antisymm (g2 m h1) (h2 _ g1)
def cMaxL (st : Sto) (ds : List D) : MM D := match ds with
  | [x] => match (lstOf st x).bind intsOf with
    | some is => if is = [] then none else ret (.int (maxOf is)) st
    | none => none
  | _ => none
theorem rf_maxL : RfC K E (rMax K) cMaxL := fun xs ds w Q o r hp => by
  unfold cMaxL at hp
  split at hp
  · rename_i d
    obtain ⟨x, rfl, rx⟩ := r.one_inv
    cases h1 : lstOf w.st d with
    | none => simp only [h1, Option.bind_none] at hp; exact hp.elim
    | some es =>
      simp only [h1, Option.bind_some] at hp
      cases h2 : intsOf es with
      | none => simp only [h2] at hp; exact hp.elim
      | some is =>
        simp only [h2] at hp
        obtain ⟨a, vs, rfl, hs, rs⟩ := lstOf_rep o rx h1
        by_cases z : is = []
        · rw [if_pos z] at hp; exact hp.elim
        · rw [if_neg z] at hp
          rw [intsOf_rep rs h2] at hs
          refine ⟨a, is, rfl, hs, List.length_pos_iff.mpr z, fun m m1 m2 => ?_⟩
          rw [maxOf_is m1 m2]; exact post_ret o (.int _) hp
  · exact hp.elim
/-- max(xs, default=d) -/
def mMaxD (fa fb : FE) : FE := fun sl st => bnd (fa sl st) fun x st => bnd (fb sl st) fun d st => match (lstOf st x).bind intsOf with
  | some is => if is = [] then ret d st else ret (.int (maxOf is)) st
  | none => none
theorem me_maxD {kp : Pos} (hc : X.calm = true) (hm : X.mg "max" = none) (ha : ME X E a fa) (hb : ME X E b fb) (hg : Gl X "max" := by rfl)
    (h1 : starEach [a] X.env = (false, eval a X.env) :: starEach [] X.env := by rfl)
    (he : backTo pos (starEach [a] X.env) = (false, eval a X.env) :: backTo pos (starEach [] X.env) := by rfl) (hpl : (backTo pos (starEach [a] X.env)).any (·.1) = false := by rfl)
    (hall : (backToKw pos (keywordEach [⟨some "default", b, kp⟩] X.env)).all (·.1.isSome) = true := by rfl) (hnone : (backToKw pos (keywordEach [⟨some "default", b, kp⟩] X.env)).any (·.1.isNone) = false := by rfl) (hks : (backToKw pos (keywordEach [⟨some "default", b, kp⟩] X.env)).filterMap (·.1) = [Str.ofString "default"] := by rfl) :
    ME X E (.Call (.Name "max" p) [a] [⟨some "default", b, kp⟩] pos) (mMaxD fa fb) := by
  obtain ⟨t, p, q⟩ := ha.ex
  obtain ⟨t2, p2, q2⟩ := hb.ex
  refine ⟨_, pe_callBK (cr_maxD hc) hg hm (by decide +kernel) (pa_cons p pa_nil h1) (pk_cons p2 pk_nil) (by decide) (by decide) he hpl hall hnone hks, fun sl σ w Q o s h => ?_⟩
  refine q sl σ w _ o s (post_bnd h fun x dx w1 o1 s1 rx hp => ?_)
  refine q2 sl σ w1 _ o1 (s.step s1) (post_bnd hp fun y dy w2 o2 s2 ry hp => ?_)
  show rMaxD X.K [x] [y] w2.H Q
  have rx := rx.mono s2.le s2.pre
  cases h1 : lstOf w2.st dx with
  | none => simp only [h1, Option.bind_none] at hp; exact hp.elim
  | some es =>
    simp only [h1, Option.bind_some] at hp
    cases h2 : intsOf es with
    | none => simp only [h2] at hp; exact hp.elim
    | some is =>
      simp only [h2] at hp
      obtain ⟨a, vs, rfl, hs, rs⟩ := lstOf_rep o2 rx h1
      rw [intsOf_rep rs h2] at hs
      refine ⟨a, is, y, rfl, rfl, hs, fun z => ?_, fun m m1 m2 => ?_⟩
      · rw [if_pos z] at hp; exact post_ret o2 ry hp
      · have z : is ≠ [] := fun z => by rw [z] at m1; simp at m1
        rw [if_neg z] at hp
        rw [maxOf_is m1 m2]; exact post_ret o2 (.int _) hp
/-! ### y = [e for x in xs], a name -/
section
variable {E' : XK} {elt tg iter : Expr} {scope : Scope} {own : List (Str × Nat)} {gt : FG} {ft : FT} {fe : FE} {g : TG} {fI : FA} {spos py : Pos} {y : Str} {k : Nat}
theorem ms_setLc (b : Bool) (hc : X.calm = true) (hN : X.N.Nodup) (hi : MI X E tg iter fI) (ok : BlkOk X.N X.env.scope scope own)
    (hg : ∀ (s : Shared) (H : Hp) (C : Addr) (cl : List (Str × Addr)) (fp : List Addr), PG (X.blk s H scope (compEnvC scope cl C X.env) fp) tg g) (hgr : RfGW X.K E' (own.map (·.2)) g gt)
    (he : ∀ (s : Shared) (H : Hp) (C : Addr) (cl : List (Str × Addr)) (fp : List Addr), ME (X.blk s H scope (compEnvC scope cl C X.env) fp) E' elt fe) (hy : X.N[k]? = some y := by rfl) (hyl : X.env.scope.names.lookup y = some .local := by rfl)
    (hsw : swapsWith (.ListComp elt [⟨tg, iter, [], 0⟩] scope pos) (some (.Name y py)) spos.line X.env = pure true := by exact sw_true rfl rfl rfl (by decide +kernel)) (hs : ∀ x, foldedSetIterable iter X.env x = pure x := by intro _; rfl) :
    MS X E (.Assign [.Name y py] (.ListComp elt [⟨tg, iter, [], 0⟩] scope pos) spos) (sAsg (mLc b fI gt tYesD fe (own.map (·.2))) (gNm k)) := by
  obtain ⟨wi, p, q⟩ := hi.ex
  refine ⟨_, ps_setLc hc hN hy hyl hsw p ok hg (fun _ _ _ _ _ => pts_nil) (fun s H C cl fp => (show PE (X.blk s H scope (compEnvC scope cl C X.env) fp) elt (tE X.K E' fe) from (he s H C cl fp).can)) hs, ref_asg ?_ fun v d sl σ w Q o r s h => h (σ.set k (some v)) w rfl o (Step.refl w) (s.set r)⟩
  exact ref_lc (E' := E') b q hgr (fun sl σ w Q o s h => post_ret o rfl h) (fun sl σ w Q o s h => ⟨sl, w, rfl, o, s, h⟩) fun σ => wipe_wipe σ _
theorem ms_setLcIf (b : Bool) (hc : X.calm = true) (hN : X.N.Nodup) (hi : MI X E tg iter fI) (ok : BlkOk X.N X.env.scope scope own)
    (hg : ∀ (s : Shared) (H : Hp) (C : Addr) (cl : List (Str × Addr)) (fp : List Addr), PG (X.blk s H scope (compEnvC scope cl C X.env) fp) tg g) (hgr : RfGW X.K E' (own.map (·.2)) g gt)
    (ht : ∀ (s : Shared) (H : Hp) (C : Addr) (cl : List (Str × Addr)) (fp : List Addr), MT (X.blk s H scope (compEnvC scope cl C X.env) fp) E' c ft)
    (he : ∀ (s : Shared) (H : Hp) (C : Addr) (cl : List (Str × Addr)) (fp : List Addr), ME (X.blk s H scope (compEnvC scope cl C X.env) fp) E' elt fe) (hy : X.N[k]? = some y := by rfl) (hyl : X.env.scope.names.lookup y = some .local := by rfl)
    (hsw : swapsWith (.ListComp elt [⟨tg, iter, [c], 0⟩] scope pos) (some (.Name y py)) spos.line X.env = pure true := by exact sw_true rfl rfl rfl (by decide +kernel)) (hs : ∀ x, foldedSetIterable iter X.env x = pure x := by intro _; rfl) :
    MS X E (.Assign [.Name y py] (.ListComp elt [⟨tg, iter, [c], 0⟩] scope pos) spos) (sAsg (mLc b fI gt ft fe (own.map (·.2))) (gNm k)) := by
  obtain ⟨wi, p, q⟩ := hi.ex
  refine ⟨_, ps_setLc hc hN hy hyl hsw p ok hg (fun s H C cl fp => pts_one (show PT (X.blk s H scope (compEnvC scope cl C X.env) fp) c (tT X.K E' ft) from (ht s H C cl fp).can)) (fun s H C cl fp => (show PE (X.blk s H scope (compEnvC scope cl C X.env) fp) elt (tE X.K E' fe) from (he s H C cl fp).can)) hs, ref_asg ?_ fun v d sl σ w Q o r s h => h (σ.set k (some v)) w rfl o (Step.refl w) (s.set r)⟩
  exact ref_lc (E' := E') b q hgr (fun sl σ w Q o s h => ⟨sl, w, rfl, o, s, h⟩) (fun sl σ w Q o s h => ⟨sl, w, rfl, o, s, h⟩) fun σ => wipe_wipe σ _
end
end
end M

namespace M
open PySem PySem.Spec L2
/-- data to be sorted: bs with their values, enc their plain data -/
def rSortD (K : PySem.W.Frag) : List V → Hp → VK → Prop := fun vs H Q => ∃ (a : Addr) (β : Type) (bs : List (V × β)) (enc : β → PyData), vs = [V.ref a] ∧ SqL K H a (bs.map (·.1)) ∧ DpAll K H (bs.map (·.1)) (bs.map fun b => enc b.2) ∧
  PySem.W.AllAlike (bs.map fun b => enc b.2) ∧ PySem.W.Sortable (bs.map fun b => enc b.2) ∧ (∀ b ∈ bs, (enc b.2).depth ≤ 60) ∧ ∀ p, H p = none → Q (.ref p) (upd H p (.lst ((bs.mergeSort (PySem.W.dataLe false fun b => enc b.2)).map (·.1))))
theorem vals_each {us : List Value} {vs : List V} (r : Vals vs us) {β : Type} : ∀ (bs : List (V × β)), vs = bs.map (·.1) → PySem.W.EachIs (fun u (b : V × β) => RelV b.1 u) us bs := by
  induction r with
  | nil =>
    intro bs e
    cases bs with
    | nil => exact .nil
    | cons b r => cases e
  | cons h t ih =>
    intro bs e
    cases bs with
    | nil => cases e
    | cons b r => injection e with e1 e2; subst e1; exact .cons h (ih r e2)
theorem each_vals {β : Type} : ∀ {us : List Value} {bs : List (V × β)}, PySem.W.EachIs (fun u (b : V × β) => RelV b.1 u) us bs → Vals (bs.map (·.1)) us
  | _, _, .nil => .nil
  | _, _, .cons h t => .cons h (each_vals t)
theorem readsAll_bs {h : Heap} {β : Type} (enc : β → PyData) : ∀ {vs : List Value} {bs : List (V × β)} {as : List Addr}, ReadsAll h vs (bs.map fun b => enc b.2) as → PySem.W.EachIs (fun v (b : V × β) => ∃ as, Reads h v (enc b.2) as) vs bs := fun {vs bs as} r => PySem.W.readsAll_each (fun b : V × β => enc b.2) r
theorem cr_sortD {X : Cx} (hu : X.A.units + 64 < cLine) : CallR X (.builtin "sorted") (rSortD X.K) := by
  intro pins s σ H vs us Q I r h
  obtain ⟨a, β, bs, enc, rfl, hs, hd, hal, hk, hdep, q⟩ := h
  obtain ⟨its, rv, hl, hz⟩ := I.list hs
  rw [Vals.ref1 r]
  obtain ⟨as, hr⟩ := Dp.readsAll I _ _ _ hd rv
  have e1 := vals_each rv bs rfl
  refine PySem.W.sorted_data (enc := fun b : V × β => enc b.2) hl.isList e1 (readsAll_bs enc hr) hal hk (by rw [List.length_map] at hz; exact hz) (fun b hb => ?_) fun out ho eo => ?_
  · have := hdep b hb
    omega
  · have rv2 := each_vals eo
    have hlen : ((bs.mergeSort (PySem.W.dataLe false fun b => enc b.2)).map (·.1)).length ≤ sizeLine := by
      rw [List.length_map, List.length_mergeSort]
      rw [List.length_map] at hz
      exact hz
    obtain ⟨ep, he⟩ := PyProof.Rows.sortedAll_at s.heap its out.toArray
    exact ⟨.ref _, upd H (s.heap.objs.size + 1) (.lst _), I.laid (t' := s.toks) (fun _ _ => PyProof.Rows.sortedAll_old) (Nat.le_succ _) ⟨hlen, out, ep, rv2, he⟩, rfl, q _ (I.hok.fresh (Nat.le_succ _))⟩
/-! ### sorted, over data -/
def pyD (d : D) : PyData := (py d).getD .none
def leD (a b : D) : Bool := PySem.W.dataLe false pyD a b
def sortOk (ds : List D) : Bool := ds.all (fun d => (py d).isSome && decide ((pyD d).depth ≤ 60)) && ds.all (fun d => ds.all fun e => PySem.W.alike (pyD d) (pyD e)) &&
  (ds.all (fun d => match pyD d with
    | .tuple (_ :: _) => true
    | _ => false) || ds.all (fun d => match pyD d with
    | .tuple _ => false
    | .none => false
    | _ => true))
def cSorted (c : Bool) (st : Sto) (ds : List D) : MM D := match ds with
  | [x] => match lstOf st x with
    | some es => if sortOk es = true then mkL c (es.mergeSort leD) st else none
    | none => none
  | _ => none
theorem py_getD {ds : List D} (h : ∀ d ∈ ds, (py d).isSome = true) : pys ds = some (ds.map pyD) := by
  induction ds with
  | nil => rw [pys]; rfl
  | cons d r ih =>
    rw [pys, ih fun e he => h e (List.mem_cons_of_mem _ he)]
    obtain ⟨x, hx⟩ := Option.isSome_iff_exists.mp (h d List.mem_cons_self)
    rw [hx]
    show some (x :: r.map pyD) = some (pyD d :: r.map pyD)
    unfold pyD
    rw [hx]; rfl
theorem zip_fst : ∀ {vs : List V} {ds : List D}, vs.length = ds.length → (vs.zip ds).map (·.1) = vs ∧ (vs.zip ds).map (·.2) = ds
  | [], [], _ => ⟨rfl, rfl⟩
  | [], _ :: _, h => by cases h
  | _ :: _, [], h => by cases h
  | v :: vs, d :: ds, h => by
    obtain ⟨h1, h2⟩ := zip_fst (vs := vs) (ds := ds) (Nat.succ.inj h)
    exact ⟨congrArg _ h1, congrArg _ h2⟩
theorem reps_zip {K : PySem.W.Frag} {F : Hp} {α : List Addr} : ∀ {vs : List V} {ds : List D}, Reps K F α vs ds → ∀ p ∈ vs.zip ds, Rep K F α p.1 p.2
  | _, _, .nil, p, h => by simp at h
  | _, _, .cons r rs, p, h => by
    rcases List.mem_cons.mp h with rfl | h
    · exact r
    · exact reps_zip rs p h
theorem reps_of_all {K : PySem.W.Frag} {F : Hp} {α : List Addr} : ∀ {l : List (V × D)}, (∀ p ∈ l, Rep K F α p.1 p.2) → Reps K F α (l.map (·.1)) (l.map (·.2))
  | [], _ => .nil
  | p :: r, h => .cons (h p List.mem_cons_self) (reps_of_all fun q hq => h q (List.mem_cons_of_mem _ hq))
theorem rf_sorted {K : PySem.W.Frag} {E : XK} (c : Bool) : RfC K E (rSortD K) (cSorted c) := fun xs ds w Q o r hp => by
  unfold cSorted at hp
  split at hp
  · rename_i d
    obtain ⟨x, rfl, rx⟩ := r.one_inv
    cases h1 : lstOf w.st d with
    | none => simp only [h1] at hp; exact hp.elim
    | some es =>
      simp only [h1] at hp
      obtain ⟨hok, hp⟩ := post_ite hp
      obtain ⟨a, vs, rfl, hs, rs⟩ := lstOf_rep o rx h1
      obtain ⟨z1, z2⟩ := zip_fst rs.length
      unfold sortOk at hok
      simp only [Bool.and_eq_true, List.all_eq_true, decide_eq_true_eq] at hok
      obtain ⟨⟨a1, a2⟩, a3⟩ := hok
      have e2 : ((vs.zip es).map fun b => pyD b.2) = es.map pyD := by
        have := congrArg (List.map pyD) z2
        rw [List.map_map] at this
        exact this
      refine ⟨a, D, vs.zip es, pyD, rfl, by rw [z1]; exact hs, ?_, ?_, ?_, fun b hb => (a1 b.2 (List.of_mem_zip hb).2).2, fun p np => ?_⟩
      · rw [z1, e2]
        exact pys_rep o rs (py_getD fun d hd => (a1 d hd).1)
      · rw [e2]
        intro u hu v hv
        obtain ⟨d1, m1, rfl⟩ := List.mem_map.mp hu
        obtain ⟨d2, m2, rfl⟩ := List.mem_map.mp hv
        exact a2 d1 m1 d2 m2
      · rw [e2]
        rw [Bool.or_eq_true, List.all_eq_true, List.all_eq_true] at a3
        rcases a3 with a3 | a3
        · refine .inl fun u hu => ?_
          obtain ⟨d1, m1, rfl⟩ := List.mem_map.mp hu
          have := a3 d1 m1
          split at this
          · rename_i y l e; exact ⟨_, _, e⟩
          · cases this
        · refine .inr fun u hu => ?_
          obtain ⟨d1, m1, rfl⟩ := List.mem_map.mp hu
          have := a3 d1 m1
          split at this
          · cases this
          · cases this
          · rename_i g1 g2; exact ⟨fun e => g2 e, fun ys e => g1 ys e⟩
      · have hsort : ((vs.zip es).mergeSort (PySem.W.dataLe false fun b => pyD b.2)).map (·.2) = es.mergeSort leD := by
          have := List.map_mergeSort (r := PySem.W.dataLe false fun b : V × D => pyD b.2) (s := leD) (f := (·.2)) (l := vs.zip es) fun a _ b _ => rfl
          rw [this, z2]
        refine post_mkL o hp np ?_
        rw [← hsort]
        refine reps_of_all fun q hq => reps_zip rs q ?_
        exact (List.mergeSort_perm _ _).mem_iff.mp hq
  · exact hp.elim
end M

/-! A plain run ends well, with what is wanted of its end. -/
namespace M
open PySem L2
def Ens {τ : Type} (m : MM τ) (Q : τ → Sto → Prop) : Prop := ∃ x st, m = some (.ok x st) ∧ Q x st
section
variable {τ υ : Type} {Q : τ → Sto → Prop}
theorem ens_ret {x : τ} {st : Sto} (h : Q x st) : Ens (ret x st) Q := ⟨x, st, rfl, h⟩
theorem ens_bnd {m : MM υ} {k : υ → Sto → MM τ} (h : Ens m fun x st => Ens (k x st) Q) : Ens (bnd m k) Q := by
  obtain ⟨x, st, rfl, y, st2, e, q⟩ := h
  exact ⟨y, st2, e, q⟩
theorem ens_ite {C : Prop} [Decidable C] {m : MM τ} (c : C) (h : Ens m Q) : Ens (if C then m else none) Q := by rw [if_pos c]; exact h
theorem ens_if {C : Prop} [Decidable C] {m n : MM τ} (h1 : C → Ens m Q) (h2 : ¬ C → Ens n Q) : Ens (if C then m else n) Q := by
  by_cases c : C
  · rw [if_pos c]; exact h1 c
  · rw [if_neg c]; exact h2 c
theorem ens_cond {b : Bool} {m n : MM τ} (h1 : b = true → Ens m Q) (h2 : b = false → Ens n Q) : Ens (cond b m n) Q := by
  cases b with
  | true => exact h1 rfl
  | false => exact h2 rfl
theorem ens_lift {o : Option τ} {x : τ} {st : Sto} (e : o = some x) (h : Q x st) : Ens (lift o st) Q := by rw [e]; exact ⟨x, st, rfl, h⟩
theorem Ens.imp {m : MM τ} {Q' : τ → Sto → Prop} (h : Ens m Q) (k : ∀ x st, Q x st → Q' x st) : Ens m Q' := let ⟨x, st, e, q⟩ := h; ⟨x, st, e, k x st q⟩
theorem ens_noX {m : MM τ} (h : Ens m Q) : Ens (noX m) Q := by
  obtain ⟨x, st, rfl, q⟩ := h
  exact ⟨x, st, rfl, q⟩
theorem ens_eq {m n : MM τ} (e : m = n) (h : Ens n Q) : Ens m Q := by rw [e]; exact h
end
/-! statements: on, handed back -/
def EnsS (m : MM Fl) (N : Sl → Sto → Prop) (R : D → Sto → Prop) : Prop := Ens m fun f st => match f with
  | .nx sl => N sl st
  | .rt d => R d st
  | .bk _ => False
  | .ct _ => False
theorem ens_for {tg : FG} {body : FS} {N : Sl → Sto → Prop} {R : D → Sto → Prop} (I : Nat → Sl → Sto → Prop) : ∀ (ds : List D) (i : Nat) {sl : Sl} {st : Sto}, I i sl st →
    (∀ (j : Nat) d sl st, ds[j]? = some d → I (i + j) sl st → Ens (tg d sl st) fun sl st => EnsS (body sl st) (I (i + j + 1)) R) → (∀ sl st, I (i + ds.length) sl st → N sl st) → EnsS (forL tg body ds sl st) N R
  | [], i, sl, st, h0, hs, hd => ens_ret (hd sl st h0)
  | d :: ds, i, sl, st, h0, hs, hd => by
    refine ens_bnd ((hs 0 d sl st rfl h0).imp fun sl1 st1 h1 => ens_bnd (h1.imp fun f st2 h2 => ?_))
    have rest : ∀ sl2, I (i + 1) sl2 st2 → EnsS (forL tg body ds sl2 st2) N R := fun sl2 h => ens_for I ds (i + 1) h (fun j d' sl st e hI => by
      have e1 : i + 1 + j = i + (j + 1) := by omega
      rw [e1] at hI ⊢
      exact hs (j + 1) d' sl st e hI) (fun sl st hI => hd sl st (by
      have e1 : i + (d :: ds).length = i + 1 + ds.length := by rw [List.length_cons]; omega
      rw [e1]; exact hI))
    cases f with
    | nx sl2 => exact rest sl2 h2
    | ct sl2 => exact h2.elim
    | bk sl2 => exact h2.elim
    | rt d2 => exact ens_ret h2
theorem ens_for0 {tg : FG} {body : FS} {N : Sl → Sto → Prop} {R : D → Sto → Prop} (I : Nat → Sl → Sto → Prop) {ds : List D} {sl : Sl} {st : Sto} (h0 : I 0 sl st)
    (hs : ∀ (j : Nat) d sl st, ds[j]? = some d → I j sl st → Ens (tg d sl st) fun sl st => EnsS (body sl st) (I (j + 1)) R) (hd : ∀ sl st, I ds.length sl st → N sl st) : EnsS (forL tg body ds sl st) N R :=
  ens_for I ds 0 h0 (fun j d sl st e h => by
    rw [Nat.zero_add] at h ⊢
    exact hs j d sl st e h) (fun sl st h => hd sl st (by rw [Nat.zero_add] at h; exact h))
/-! calls -/
def iDs (xs : List Int) : List D := xs.map .int
theorem pfs_iDs : ∀ xs : List Int, pfs (iDs xs) = true
  | [] => by simp [iDs, pfs]
  | x :: r => by
    have := pfs_iDs r
    simp only [iDs, List.map_cons, pfs, pf, Bool.true_and] at this ⊢
    exact this
section
variable {Q : D → Sto → Prop} {n : Nat} {m : List D → Sto → MM D} {st : Sto}
theorem ens_B1 {r : List D} {c : Cell} (hl : r.length + 1 = n) (pr : pfs r = true) (pc : pfC c = true) (h : Ens (m (.ptr 0 :: r) [some c]) fun d cs => ∃ c' rest, cs = some c' :: rest ∧ pfC c' = true ∧ pf d = true ∧ Q d (some c' :: st)) : Ens (callB n m (.ptr 0 :: r) (some c :: st)) Q := by
  obtain ⟨d, cs, e, c', rest, rfl, p1, p2, q⟩ := h
  refine ⟨d, some c' :: st, ?_, q⟩
  unfold callB
  rw [if_pos (show (D.ptr 0 :: r).length = n from hl)]
  show (if pfs r = true ∧ pfC c = true then back1 0 (some c :: st) (m (.ptr 0 :: r) [some c]) else none) = _
  rw [if_pos ⟨pr, pc⟩, e]
  show (if pfC c' = true then outB d (some c' :: rest) 1 (some c' :: st) else none) = _
  rw [if_pos p1]
  unfold outB
  rw [if_pos p2]; rfl
def noPtr : List D → Bool
  | .ptr _ :: _ => false
  | _ => true
theorem callB_0 {ds : List D} (hl : ds.length = n) (hp : noPtr ds = true) (pr : pfs ds = true) : callB n m ds st = back0 st (m ds []) := by
  unfold callB
  rw [if_pos hl]
  cases ds with
  | nil => exact if_pos pr
  | cons d r =>
    cases d with
    | ptr i => cases hp
    | _ => exact if_pos pr
theorem ens_B0 {ds : List D} (hl : ds.length = n) (hp : noPtr ds = true) (pr : pfs ds = true) (h : Ens (m ds []) fun d cs => pf d = true ∧ Q d st) : Ens (callB n m ds st) Q := by
  obtain ⟨d, cs, e, p, q⟩ := h
  refine ⟨d, st, ?_, q⟩
  rw [callB_0 hl hp pr, e]
  show outB d cs 0 st = _
  unfold outB
  rw [if_pos p]; rfl
/-- a new cell handed back -/
theorem ens_B0c {ds : List D} (hl : ds.length = n) (hp : noPtr ds = true) (pr : pfs ds = true) (h : Ens (m ds []) fun d cs => ∃ j c, d = .ptr j ∧ cs[j]? = some (some c) ∧ pfC c = true ∧ Q (.ptr st.length) (st ++ [some c])) : Ens (callB n m ds st) Q := by
  obtain ⟨d, cs, e, j, c, rfl, e2, p, q⟩ := h
  refine ⟨_, _, ?_, q⟩
  rw [callB_0 hl hp pr, e]
  show outB (.ptr j) cs 0 st = _
  unfold outB
  rw [if_neg (by rw [pf]; exact Bool.false_ne_true)]
  show (if 0 ≤ j then _ else none) = _
  rw [if_pos (Nat.zero_le _)]
  simp only [e2]
  rw [if_pos p]; rfl
theorem ens_def {N k : Nat} {g : FS} {ds : List D} (sl : Sl) (e : ds.map some ++ List.replicate (N - k) none = sl) (h : EnsS (g sl st) (fun _ st => Q .non st) Q) : Ens (mDef N k g ds st) Q := by
  subst e
  refine ens_bnd (h.imp fun f st q => ?_)
  cases f with
  | nx _ => exact ens_ret q
  | rt d => exact ens_ret q
  | bk _ => exact q.elim
  | ct _ => exact q.elim
end
/-! statements -/
section
variable {N : Sl → Sto → Prop} {R : D → Sto → Prop} {sl : Sl} {st : Sto}
theorem ens_seq {g1 g2 : FS} (h : EnsS (g1 sl st) (fun sl st => EnsS (g2 sl st) N R) R) : EnsS (sSeq g1 g2 sl st) N R := by
  refine ens_bnd (h.imp fun f st q => ?_)
  cases f with
  | nx _ => exact q
  | rt d => exact ens_ret q
  | bk _ => exact q.elim
  | ct _ => exact q.elim
theorem ens_asg {f : FE} {i : Nat} (h : Ens (f sl st) fun d st => N (sl.set i (some d)) st) : EnsS (sAsg f (gNm i) sl st) N R := ens_bnd (h.imp fun _ _ q => ens_bnd (ens_ret (ens_ret q)))
theorem ens_drop {f : FE} (h : Ens (f sl st) fun _ st => N sl st) : EnsS (sDrop f sl st) N R := ens_bnd (h.imp fun _ _ q => ens_ret q)
theorem ens_retS {f : FE} (h : Ens (f sl st) fun d st => R d st) : EnsS (sRet f sl st) N R := ens_bnd (h.imp fun _ _ q => ens_ret q)
theorem ens_ifS {c : FT} {g1 g2 : FS} (h : Ens (c sl st) fun b st => (b = true → EnsS (g1 sl st) N R) ∧ (b = false → EnsS (g2 sl st) N R)) : EnsS (sIf c g1 g2 sl st) N R := ens_bnd (h.imp fun _ _ q => ens_cond q.1 q.2)
theorem ens_var {i : Nat} {d : D} {Q : D → Sto → Prop} (e : gv sl i = some d) (h : Q d st) : Ens (mVar i sl st) Q := ens_lift e h
theorem ens_C {d : D} {Q : D → Sto → Prop} (h : Q d st) : Ens (mC d sl st) Q := ens_ret h
theorem ens_next (h : N sl st) : EnsS (sNext sl st) N R := ens_ret h
end
/-! expressions -/
section
variable {Q : D → Sto → Prop} {P : List D → Sto → Prop} {B : Bool → Sto → Prop} {sl : Sl} {st : Sto} {f f1 f2 f3 : FE} {g h : FA} {c1 c2 : FT} {N : Sl → Sto → Prop} {R : D → Sto → Prop}
theorem ens_red {τ : Type} {Q : τ → Sto → Prop} {m : MM τ} {x : τ} {st : Sto} (e : m = ret x st) (h : Q x st) : Ens m Q := by rw [e]; exact ⟨x, st, rfl, h⟩
theorem ens_bin {p : Sto → D → D → MM D} (q : Ens (f1 sl st) fun x st => Ens (f2 sl st) fun y st => Ens (p st x y) Q) : Ens (mBin p f1 f2 sl st) Q := ens_bnd (q.imp fun _ _ q => ens_bnd q)
theorem ens_un {p : Sto → D → MM D} (q : Ens (f1 sl st) fun x st => Ens (p st x) Q) : Ens (mUn p f1 sl st) Q := ens_bnd q
theorem ens_CB {p : Sto → List D → MM D} (q : Ens (g sl st) fun ds st => Ens (p st ds) Q) : Ens (mCB p g sl st) Q := ens_bnd q
theorem ens_call {p : List D → Sto → MM D} (q : Ens (g sl st) fun ds st => Ens (p ds st) Q) : Ens (mCall p g sl st) Q := ens_bnd q
theorem ens_nil (q : P [] st) : Ens (mNil sl st) P := ens_ret q
theorem ens_cons (q : Ens (f sl st) fun x st => Ens (g sl st) fun xs st => P (x :: xs) st) : Ens (mCons f g sl st) P := ens_bnd (q.imp fun _ _ q => ens_bnd (q.imp fun _ _ q => ens_ret q))
theorem ens_tup (q : Ens (g sl st) fun ds st => ds.length ≤ 1000 ∧ Q (.tup ds) st) : Ens (mTup g sl st) Q := ens_bnd (q.imp fun _ _ q => ens_ite q.1 (ens_ret q.2))
theorem ens_lst (q : Ens (g sl st) fun ds st => ds.length ≤ 1000 ∧ Q (.lst ds) st) : Ens (mLst false g sl st) Q := ens_bnd (q.imp fun _ _ q => ens_ite q.1 (ens_ret q.2))
theorem ens_lstC (q : Ens (g sl st) fun ds st => ds.length ≤ 1000 ∧ Q (.ptr st.length) (st ++ [some (.lst ds)])) : Ens (mLst true g sl st) Q := ens_bnd (q.imp fun _ _ q => ens_ite q.1 (ens_ret q.2))
theorem ens_BM {T : String} {p : Sto → D → List D → MM D} (q : Ens (f sl st) fun x st => tyOk T st x = true ∧ Ens (g sl st) fun ds st => Ens (p st x ds) Q) : Ens (mBM T p f g sl st) Q := ens_bnd (q.imp fun _ _ q => ens_ite q.1 (ens_bnd q.2))
theorem ens_BM0 {T : String} {p : Sto → D → List D → MM D} (q : Ens (f sl st) fun x st => tyOk T st x = true ∧ Ens (p st x []) Q) : Ens (mBM0 T p f sl st) Q := ens_bnd (q.imp fun _ _ q => ens_ite q.1 q.2)
theorem ens_NP {Q : Option Int → Sto → Prop} (q : Q none st) : Ens (mNoPart sl st) Q := ens_ret q
theorem ens_PA {Q : Option Int → Sto → Prop} (q : Ens (f sl st) fun x st => ∃ i, x = .int i ∧ Q (some i) st) : Ens (mPart f sl st) Q := ens_bnd (q.imp fun _ _ ⟨_, e, q⟩ => by subst e; exact ens_ret q)
theorem ens_SL {c : Bool} {l r : FO} (q : Ens (f sl st) fun x st => Ens (l sl st) fun lo st => Ens (r sl st) fun hi st => Ens (gSl c st x lo hi) Q) : Ens (mSl c f l r sl st) Q := ens_bnd (q.imp fun _ _ q => ens_bnd (q.imp fun _ _ q => ens_bnd q))
theorem ens_DG (q : Ens (f1 sl st) fun x st => Ens (f2 sl st) fun y st => ∃ d, dGet st x y = some (some d) ∧ Q d st) : Ens (mDGet f1 f2 sl st) Q := ens_bnd (q.imp fun _ _ q => ens_bnd (q.imp fun _ _ ⟨_, e, q⟩ => by simp only [e]; exact ens_ret q))
theorem ens_DG2 (q : Ens (f1 sl st) fun x st => mDGet2.isDct st x = true ∧ Ens (f2 sl st) fun y st => Ens (f3 sl st) fun z st => ∃ r, dGet st x y = some r ∧ Q (r.getD z) st) : Ens (mDGet2 f1 f2 f3 sl st) Q := ens_bnd (q.imp fun _ _ ⟨e, q⟩ => by
  rw [e]
  exact ens_bnd (q.imp fun _ _ q => ens_bnd (q.imp fun _ _ ⟨_, e, q⟩ => by simp only [e]; exact ens_ret q)))
theorem ens_DI (q : Ens (f1 sl st) fun y st => Ens (f2 sl st) fun x st => ∃ r, dGet st x y = some r ∧ Q (.bl r.isSome) st) : Ens (mDIn false f1 f2 sl st) Q := ens_bnd (q.imp fun _ _ q => ens_bnd (q.imp fun _ _ ⟨_, e, q⟩ => by simp only [e]; exact ens_ret q))
theorem ens_KE (q : Ens (f sl st) fun x st => ∃ ds, keysD st x = some ds ∧ Q (.lst ds) st) : Ens (mKeys false f sl st) Q := ens_bnd (q.imp fun _ _ ⟨_, e, q⟩ => by simp only [e]; exact ens_ret q)
theorem ens_MD (q : Ens (f1 sl st) fun x st => Ens (f2 sl st) fun d st => ∃ is, lstOf st x = some (iDs is) ∧ Q (if is = [] then d else .int (maxOf is)) st) : Ens (mMaxD f1 f2 sl st) Q := ens_bnd (q.imp fun _ _ q => ens_bnd (q.imp fun _ _ ⟨is, e, q⟩ => by
  rw [e]
  show Ens (match intsOf (is.map .int) with
    | some is => if is = [] then _ else _
    | none => none) Q
  rw [intsOf_map]
  by_cases z : is = []
  · rw [if_pos z] at q; simp only [if_pos z]; exact ens_ret q
  · rw [if_neg z] at q; simp only [if_neg z]; exact ens_ret q))
theorem ens_NK (q : Q (.ptr st.length) (st ++ [some (.dct [])])) : Ens (mDNewK sl st) Q := ens_ret q
theorem ens_NT (q : Q (.ptr st.length) (st ++ [some (.dcT [])])) : Ens (mDNewT sl st) Q := ens_ret q
theorem ens_B (q : Ens (f sl st) fun x st => ∃ b, x = .bl b ∧ B b st) : Ens (mB f sl st) B := ens_bnd (q.imp fun _ _ ⟨_, e, q⟩ => by subst e; exact ens_ret q)
theorem ens_TR (q : Ens (f sl st) fun x st => ∃ b, truD st x = some b ∧ B b st) : Ens (mTru f sl st) B := ens_bnd (q.imp fun _ _ ⟨_, e, q⟩ => ens_lift e q)
theorem ens_AND (q : Ens (c1 sl st) fun b st => (b = true → Ens (c2 sl st) B) ∧ (b = false → B false st)) : Ens (mAnd c1 c2 sl st) B := ens_bnd (q.imp fun _ _ q => ens_cond q.1 fun e => ens_ret (q.2 e))
theorem ens_OR (q : Ens (c1 sl st) fun b st => (b = true → B true st) ∧ (b = false → Ens (c2 sl st) B)) : Ens (mOr c1 c2 sl st) B := ens_bnd (q.imp fun _ _ q => ens_cond (fun e => ens_ret (q.1 e)) q.2)
theorem ens_NOT (q : Ens (c1 sl st) fun b st => B (!b) st) : Ens (mNot c1 sl st) B := ens_bnd (q.imp fun _ _ q => ens_ret q)
theorem ens_ANDV (q : Ens (f1 sl st) fun x st => ∃ b, x = .bl b ∧ (b = true → Ens (f2 sl st) Q) ∧ (b = false → Q (.bl false) st)) : Ens (mAndV f1 f2 sl st) Q := ens_bnd (q.imp fun _ _ ⟨_, e, q⟩ => by subst e; exact ens_cond q.1 fun e => ens_ret (q.2 e))
theorem ens_NOTV (q : Ens (f1 sl st) fun x st => ∃ b, x = .bl b ∧ Q (.bl (!b)) st) : Ens (mNotV f1 sl st) Q := ens_bnd (q.imp fun _ _ ⟨_, e, q⟩ => by subst e; exact ens_ret q)
/-- a comprehension that takes every item -/
theorem ens_lcY {i : Nat} {fe : FE} {sl : Sl} {st : Sto} (F : D → D) {Q : List D → Sto → Prop} : ∀ (ds es : List D), es.length + ds.length ≤ sizeLine → (∀ d ∈ ds, fe (sl.set i (some d)) st = ret (F d) st) → Q (es ++ ds.map F) st → Ens (lcL (gNm i) tYesD fe sl ds es st) Q
  | [], es, _, _, q => ens_ret (by rw [List.map_nil, List.append_nil] at q; exact q)
  | d :: ds, es, hl, h, q => by
    rw [List.length_cons] at hl
    show Ens (bnd (fe (sl.set i (some d)) st) _) Q
    rw [h d List.mem_cons_self]
    show Ens (if es.length < sizeLine then _ else none) Q
    refine ens_ite (by omega) (ens_lcY F ds _ (by rw [List.length_append, List.length_singleton]; omega) (fun e he => h e (List.mem_cons_of_mem _ he)) ?_)
    rw [List.append_assoc]
    exact q
theorem ens_LC {it : FA} {gt : FG} {tt : FT} {fe : FE} {vs : List Nat} (q : Ens (it sl st) fun ds st => Ens (lcL gt tt fe (wipeD sl vs) ds [] st) fun es st => Q (.lst es) st) : Ens (mLc false it gt tt fe vs sl st) Q := ens_bnd (q.imp fun _ _ q => ens_bnd (ens_noX (q.imp fun _ _ q => ens_ret q)))
/-! walks -/
theorem ens_FOR {it : FA} {tg : FG} {body : FS} (q : Ens (it sl st) fun ds st => EnsS (forL tg body ds sl st) N R) : EnsS (sFor it tg body sl st) N R := ens_bnd q
theorem ens_R1 (q : Ens (g sl st) fun ds st => ∃ j : Int, ds = [.int j] ∧ (-(2 ^ 62) ≤ j ∧ j < 2 ^ 62) ∧ P (rngD 0 j.toNat) st) : Ens (iR1 g sl st) P := ens_bnd (q.imp fun _ _ ⟨_, e, c, q⟩ => by subst e; exact ens_ite c (ens_ret q))
theorem ens_IA (q : Ens (f sl st) fun d st => ∃ ds, (d = .lst ds ∨ d = .tup ds ∨ (∃ x, d = .str x ∧ ds = chrD x) ∨ ∃ ns, d = .scr ns ∧ ds = iDs ns) ∧ P ds st) : Ens (iAny f sl st) P := ens_bnd (q.imp fun _ _ ⟨_, e, q⟩ => by
  rcases e with rfl | rfl | ⟨x, rfl, rfl⟩ | ⟨x, rfl, rfl⟩
  · exact ens_ret q
  · exact ens_ret q
  · exact ens_ret q
  · exact ens_ret q)
theorem ens_IE (q : Ens (g sl st) fun ds st => ∃ es, ds = [.lst es] ∧ P (enumD es) st) : Ens (iE g sl st) P := ens_bnd (q.imp fun _ _ ⟨_, e, q⟩ => by subst e; exact ens_ret q)
/-! more statements -/
theorem ens_AUG {i : Nat} {op : Sto → D → D → MM D} {x : D} (e : gv sl i = some x) (q : Ens (f sl st) fun y st => Ens (op st x y) fun z st => N ((sl.set i (some z))) st) : EnsS (sAug i f op sl st) N R := by
  show EnsS (match gv sl i with
    | some x => bnd (f sl st) fun y st => bnd (op st x y) fun z st => ret (.nx (sl.set i (some z))) st
    | none => none) N R
  rw [e]
  exact ens_bnd (q.imp fun _ _ q => ens_bnd (q.imp fun _ _ q => ens_ret q))
theorem ens_PAR {i j : Nat} (q : Ens (g sl st) fun ds st => ∃ x y, ds = [x, y] ∧ N (((sl.set i (some x)).set j (some y))) st) : EnsS (sPar i j g sl st) N R := ens_bnd (q.imp fun _ _ ⟨_, _, e, q⟩ => by subst e; exact ens_ret q)
theorem ens_FRZ {i : Nat} {p : FS} {sl2 : Sl} {st2 : Sto} (e : frzAt i sl st = some (sl2, st2)) (q : EnsS (p sl2 st2) N R) : EnsS (sFrz i p sl st) N R := by
  unfold sFrz; rw [e]; exact q
theorem ens_DP (q : Ens (f3 sl st) fun v st => Ens (f1 sl st) fun x st => Ens (f2 sl st) fun y st => ∃ st2, dPut st x y v = some st2 ∧ N sl st2) : EnsS (sDPut f1 f2 f3 sl st) N R := ens_bnd (q.imp fun _ _ q => ens_bnd (q.imp fun _ _ q => ens_bnd (q.imp fun _ _ ⟨_, e, q⟩ => by simp only [e]; exact ens_ret q)))
/-! what is built in -/
theorem ens_I {C : Int → Int → Prop} [∀ i j, Decidable (C i j)] {p : Int → Int → D} {i j : Int} (c : C i j) (q : Q (p i j) st) : Ens (gI C p st (.int i) (.int j)) Q := ens_ite c (ens_ret q)
theorem ens_len {x : D} {ds : List D} (e : lstOf st x = some ds) (q : Q (.int ds.length) st) : Ens (cLen st [x]) Q := by
  cases x with
  | lst _ => cases e; exact ens_ret q
  | scr _ => cases e; exact ens_ret q
  | ptr _ =>
    show Ens (match lstOf st _ with
      | some xs => ret (.int xs.length) st
      | none => none) Q
    rw [e]; exact ens_ret q
  | _ => cases e
theorem ens_ix {x d : D} {ds : List D} {i : Int} (e : lstOf st x = some ds) (h : atI ds i = some d) (q : Q d st) : Ens (gIx st x (.int i)) Q := by
  cases x with
  | lst _ => cases e; exact ens_lift h q
  | scr _ => cases e; exact ens_lift h q
  | ptr _ =>
    show Ens (match lstOf st _ with
      | some ds => lift (atI ds i) st
      | none => none) Q
    rw [e]; exact ens_lift h q
  | _ => cases e
theorem ens_ixT {d : D} {ds : List D} {i : Int} (h : atI ds i = some d) (q : Q d st) : Ens (gIx st (.tup ds) (.int i)) Q := ens_lift h q
theorem ens_gsl {c : Bool} {x : D} {ds : List D} {lo hi : Option Int} (e : lstOf st x = some ds) (q : Ens (mkL c (cutD ds lo hi) st) Q) : Ens (gSl c st x lo hi) Q := by
  cases x with
  | lst _ => cases e; exact q
  | scr _ => cases e; exact q
  | ptr _ =>
    show Ens (match lstOf st _ with
      | some ds => mkL c (cutD ds lo hi) st
      | none => none) Q
    rw [e]; exact q
  | _ => cases e
theorem ens_eqI {i j : Int} (q : Q (.bl (decide (i = j))) st) : Ens (gEq st (.int i) (.int j)) Q := by
  have e : decide (V.int i = V.int j) = decide (i = j) := by by_cases z : i = j <;> simp [z]
  rw [← e] at q
  exact ens_ret q
theorem ens_neI {i j : Int} (q : Q (.bl (!decide (i = j))) st) : Ens (gNe st (.int i) (.int j)) Q := by
  have e : decide (V.int i = V.int j) = decide (i = j) := by by_cases z : i = j <;> simp [z]
  rw [← e] at q
  exact ens_ret q
theorem ens_app {i : Nat} {ds : List D} {y : D} (e : st[i]? = some (some (.lst ds))) (h : ds.length < sizeLine) (q : Q .non (st.set i (some (.lst (ds ++ [y]))))) : Ens (gAppend st (.ptr i) [y]) Q := by
  have e2 : cellL st i = some ds := by unfold cellL; rw [e]
  show Ens (match cellL st i with
    | some ds => if ds.length < sizeLine then putL i (ds ++ [y]) .non st else none
    | none => none) Q
  rw [e2]
  exact ens_ite h (ens_ret q)
theorem ens_addL {c : Bool} {x y : D} {ds es : List D} (e1 : lstOn st x = some ds) (e2 : lstOn st y = some es) (h : ds.length + es.length ≤ sizeLine) (q : Ens (mkL c (ds ++ es) st) Q) : Ens (gAdd c st x y) Q := by
  have main : Ens (match lstOn st x, lstOn st y with
    | some ds, some es => if ds.length + es.length ≤ sizeLine then mkL c (ds ++ es) st else none
    | _, _ => none) Q := by
    rw [e1, e2]; exact ens_ite h q
  cases x with
  | lst _ => exact main
  | ptr _ => exact main
  | _ => cases e1
theorem ens_sort {x : D} {ds : List D} (e : lstOf st x = some ds) (h : sortOk ds = true) (q : Q (.lst (ds.mergeSort leD)) st) : Ens (cSorted false st [x]) Q := by
  show Ens (match lstOf st x with
    | some es => if sortOk es = true then mkL false (es.mergeSort leD) st else none
    | none => none) Q
  rw [e]
  exact ens_ite h (ens_ret q)
theorem ens_maxL {x : D} {is : List Int} (e : lstOf st x = some (iDs is)) (h : is ≠ []) (q : Q (.int (maxOf is)) st) : Ens (cMaxL st [x]) Q := by
  show Ens (match (lstOf st x).bind intsOf with
    | some is => if is = [] then none else ret (.int (maxOf is)) st
    | none => none) Q
  rw [e]
  show Ens (match intsOf (is.map .int) with
    | some is => if is = [] then none else ret (.int (maxOf is)) st
    | none => none) Q
  rw [intsOf_map]
  show Ens (if is = [] then none else ret (.int (maxOf is)) st) Q
  rw [if_neg h]; exact ens_ret q
theorem iDs_len (xs : List Int) : (iDs xs).length = xs.length := List.length_map ..
theorem iDs_app (xs ys : List Int) : iDs (xs ++ ys) = iDs xs ++ iDs ys := List.map_append ..
theorem iDs_get (xs : List Int) (i : Nat) : (iDs xs)[i]? = (xs[i]?).map .int := List.getElem?_map ..
theorem at_nat {α : Type} {ds : List α} {i : Nat} {d : α} (h : ds[i]? = some d) : atI ds (i : Int) = some d := by
  have hi : i < ds.length := by
    by_cases z : i < ds.length
    · exact z
    · rw [List.getElem?_eq_none (by omega)] at h; cases h
  unfold atI ixN
  rw [if_pos (Int.natCast_nonneg _), if_pos (Int.ofNat_lt.mpr hi)]
  exact h
theorem at_last {α : Type} {ds : List α} {d : α} (h : ds[ds.length - 1]? = some d) : atI ds (-1 : Int) = some d := by
  have hi : ds.length - 1 < ds.length := by
    by_cases z : ds.length - 1 < ds.length
    · exact z
    · rw [List.getElem?_eq_none (by omega)] at h; cases h
  unfold atI ixN
  rw [if_neg (by decide), if_pos (by omega)]
  show ds[((-1 : Int) + (ds.length : Int)).toNat]? = some d
  have : ((-1 : Int) + (ds.length : Int)).toNat = ds.length - 1 := by omega
  rw [this]; exact h
end
end M

/-! An own error's __init__ that says super().__init__(e), then lays its attributes. -/
namespace M
open PySem PySem.Calls PySem.Spec PyProof.Rows L2 PySem.W
section
variable {CX : CXT} {P : Program} {w : World} {K : PySem.W.Frag} {mg : Str → Option Value} {base : Heap} {N ps : List Str} {F : NdefX.NF} {f : Addr} {k : Nat} {A : Around} {outer : List Env} {s : Shared} {H : Hp} {E : XK}
/-- what the text and the written part say of the class D whose __init__ stands at f -/
structure SupI (P : Program) (K : PySem.W.Frag) (mg : Str → Option Value) (f D cc : Addr) (F : NdefX.NF) (slf : Str) : Prop where
  fn : ∃ (oc : Value) (od : Option Addr) (fd : FuncData) (osl : Array (Option Value)) (ar : Arg), K.lookup f = some ⟨oc, od, .func fd, osl⟩ ∧ (fd.params.posonlyargs ++ fd.params.args).head? = some ar ∧ ar.arg = slf
  cell : ∃ (oc : Value) (od : Option Addr) (osl : Array (Option Value)), K.lookup cc = some ⟨oc, od, .cell (some (.ref D)), osl⟩
  clo : F.cl = [(("__class__" : Str), cc)]
  code : ∃ (oc : Value) (od : Option Addr) (vs : Array Value) (osl : Array (Option Value)) (file : Str) (tf : Tok), K.lookup F.c = some ⟨oc, od, .fields vs, osl⟩ ∧ vs[2]? = some (.str file tf) ∧ ((P.main.file : Str) == file) = true
  top : (P.main.scope.names.lookup ("super" : Str)).isSome = false
  cls : ∃ cd, clsIn K D = some cd
  mgS : mg "super" = none
  opq : nsIn K cStatics "thirdparty.any" = some none
  ks : F.scope.names.lookup ("super" : Str) = some .globalImplicit
  kc : F.scope.names.lookup ("__class__" : Str) = some .free
  ka : F.scope.names.lookup slf = some .local
/-- .. and of the class C of the object -/
structure SupC (K : PySem.W.Frag) (D C : Addr) : Prop where
  oex : OexC K C
  sub : mroIn K C (.ref D) = some true
  meth : ks_superIn K C D "__init__" = some (some (.builtin "ValueError.__init__"))
  isV : subIn K (.ref C) (.type "ValueError") = some true
theorem inst_exo {h : Heap} {a C t1 : Addr} (ho : h.get? a = some ({ cls := .ref C, dict := none, data := .fields #[.ref t1, .none, .none, .none, .bool false, .none] } : Obj)) : InstAt h a ({ cls := .ref C, dict := none, data := .fields #[.ref t1, .none, .none, .none, .bool false, .none] } : Obj) C none := ⟨ho, rfl, rfl, trivial⟩
theorem oexC_cls {C : Addr} (T : OexC K C) : ∃ cd, clsIn K C = some cd := by
  obtain ⟨nm, q, N, bs, bm, sn, sub, ab, col, dd, k0, k1, k2, k3, k5, hC, hbm⟩ := T.cls
  exact ⟨{ name := nm, bases := bs, mro := .ref C :: bm, ns := N, qualname := q, hasDict := true, slotNames := sn, subclasses := sub, abstract := ab, collection := col, hasDel := false }, by unfold clsIn; rw [hC] <;> rfl⟩
/-- super() in the body -/
theorem sup_obj {X : Cx} {pins : List (Addr × Obj)} {σ : L2.St} {D cc C a : Addr} {slf : Str} {body : List Stmt} {p0 p1 : Pos} {attr : Str} {whole : Sem Value} {L : Addr} {Q : Value → Shared → Prop} {Er : Value → Shared → Prop} (B : SupI X.prog X.K X.mg f D cc F slf) (T : SupC X.K D C) (he : X.env = NdefX.envF F f L) (hat : (attr == ("__class__" : Str)) = false)
    (I : Inv X pins σ H s) (h0 : X.N[0]? = some slf) (hv : σ[0]? = some (some (V.ref a))) (ha : H a = some (exo a C none))
    (h : ∀ h', h'.get? s.heap.objs.size = some { cls := .type "super", dict := none, data := .fields #[.ref D, .ref a, .ref C], slots := #[] } → (∀ y o, s.heap.get? y = some o → h'.get? y = some o) → Q (.ref s.heap.objs.size) { s with heap := h' }) :
    PySem.wpAt (model X.prog X.w) X.A (.func body X.env) (attributeBase (.Call (.Name "super" p0) [] [] p1) attr X.env whole) Q Er s := by
  obtain ⟨oc1, od1, fd, osl1, ar, hf, hp, har⟩ := B.fn
  obtain ⟨oc2, od2, osl2, hcell⟩ := B.cell
  obtain ⟨oc3, od3, vs, osl3, file, tf, hcode, hvs, hfile⟩ := B.code
  obtain ⟨cdD, hcd⟩ := B.cls
  have KI := I.kIn
  obtain ⟨oD, hD1, hD2⟩ : ∃ oD, s.heap.get? D = some oD ∧ oD.data = .cls cdD := by
    unfold clsIn at hcd
    split at hcd
    · rename_i c d cd' sl ho
      cases hcd
      exact ⟨_, KI _ _ ho, rfl⟩
    · cases hcd
  have hkn : X.env.scope.kind = .function := I.ok.kind
  have sc : X.env.scope = F.scope := by rw [he]
  have hks : X.env.kindOf "super" = some .globalImplicit := by show X.env.scope.names.lookup _ = _; rw [sc]; exact B.ks
  have hkc : X.env.kindOf "__class__" = some .free := by show X.env.scope.names.lookup _ = _; rw [sc]; exact B.kc
  have hka : X.env.kindOf ar.arg = some .local := by show X.env.scope.names.lookup _ = _; rw [sc, har]; exact B.ka
  obtain ⟨t1, ho⟩ := exo_at I.hok ha
  obtain ⟨m, hns, hl⟩ := I.loc
  have hm : m ar.arg = some (.ref a) := by
    obtain ⟨u, ru, lk⟩ := hl 0 slf (V.ref a) h0 hv (.inl (by rw [sc]; exact B.ka))
    obtain rfl : u = Value.ref a := ru
    rcases lk with ⟨_, e⟩ | ⟨z, _⟩
    · rw [har]; exact e
    · rw [har] at hka
      rcases z with z | z
      · rw [hka] at z; cases z
      · rw [hka] at z; cases z
  obtain ⟨mb, hb1, hb2⟩ := I.mod.blt
  refine ks_wpAt_super_base (env := X.env) hks hkc hat (by rw [he]) (KI _ _ hf) rfl hp (by rw [he]) (KI _ _ hcode) rfl hvs hfile B.top ?_
  refine ks_loadName_global hkn hks (Calls.loadGlobal_builtin (by rw [I.ok.glob]; exact I.mod.glob.keeps I.bk) B.mgS (by rw [I.ok.blt]; exact hb1.keeps I.bk) ((hb2 "super" (by decide)).trans PyProof.Rows.Boot.super) ⟨rfl, ?_⟩)
  refine wpAny_loadName_free hkn hkc (by rw [he]; show F.cl.lookup _ = _; rw [B.clo]; rfl) ⟨_, KI _ _ hcell, rfl⟩ ?_
  refine wpAny_loadName_local hkn hka hns hm ?_
  refine ks_wpAny_isType_cls hD1 hD2 ⟨rfl, ?_⟩
  refine ks_wpAny_call_super hD1 hD2 ho rfl (fun c e => by cases e) (looks_mroIn KI T.sub) (fun h' e kk => h h' e kk)
/-- super().__init__ -/
theorem sup_meth {X : Cx} {pins : List (Addr × Obj)} {σ : L2.St} {D C a so : Addr} {pl : Sem Bool} {Q : Value × List Value → Shared → Prop} {Er : Value → Shared → Prop} (T : SupC X.K D C) (hopq : nsIn X.K cStatics "thirdparty.any" = some none)
    (I : Inv X pins σ H s) (ha : H a = some (exo a C none)) (hso : s.heap.get? so = some { cls := .type "super", dict := none, data := .fields #[.ref D, .ref a, .ref C], slots := #[] })
    (h : Q (.ref s.heap.objs.size, []) { s with heap := s.heap.push (kxs_mw "ValueError.__init__" a), toks := s.toks + 1 }) : wpAny (model X.prog X.w) X.A (getMethod (.ref so) "__init__" pl) Q Er s := by
  obtain ⟨t1, ho⟩ := exo_at I.hok ha
  obtain ⟨cd, hc⟩ := oexC_cls T.oex
  have KI := I.kIn
  have J := inst_exo ho
  have hI : Looks (model X.prog X.w) s.heap (isInstance (.ref a) (.type "ValueError")) true := J.type.andThen (looks_subIn KI T.isV)
  have hm := T.meth
  unfold ks_superIn at hm
  rw [hc] at hm
  obtain ⟨hh, g, d, t, os⟩ := s
  exact kxs_getMethod kxs_ValueError hso (looks_opaque KI hopq) (l₀ := cd.mro) (fun A Q E s k q => wpAny_bind ((looks_clsIn KI hc) A _ E s k (wpAny_pure q))) rfl KI hm hI (ks_ne KI J hc) (by decide) h
/-- .. called -/
theorem sup_call {X : Cx} {pins : List (Addr × Obj)} {σ : L2.St} {D C a u : Addr} {us : List Value} {Q : Value → Shared → Prop} {Er : Value → Shared → Prop} (T : SupC X.K D C) (I : Inv X pins σ H s) (ha : H a = some (exo a C none)) (hu : s.heap.get? u = some (kxs_mw "ValueError.__init__" a)) (hl : us.length ≤ sizeLine)
    (h : ∀ s', Inv X pins σ H s' → Q .none s') : wpAny (model X.prog X.w) X.A (call (.ref u) us) Q Er s := by
  obtain ⟨nm, q, N, bs, bm, sn, sub, ab, col, dd, k0, k1, k2, k3, k5, hC, hbm⟩ := T.oex.cls
  obtain ⟨t1, ho⟩ := exo_at I.hok ha
  have KI := I.kIn
  have FB := F.excBase_ValueError
  obtain ⟨hp, g, d, t, os⟩ := s
  have fin : ∀ h', (∀ b o, b ≠ a → hp.get? b = some o → h'.get? b = some o) → h'.get? a = some ({ cls := .ref C, dict := none, data := .fields #[.ref hp.objs.size, .none, .none, .none, .bool false, .none] } : Obj) → Q .none ⟨h', g, d, t, os⟩ := fun h' kk hx => by
    have J := I.write (t' := t) (x := a) (e := a) (o := exo a C none) (by rw [ha]; exact True.intro) (.inl rfl) kk ⟨_, hx⟩ (exo_ok hx)
    have eu : upd H a (exo a C none) = H := by
      funext b
      by_cases hb : b = a
      · rw [hb, upd_same, ha]
      · rw [upd_ne hb]
    rw [eu] at J
    exact h _ J
  refine wpAny_call (codeAny_of_tree ?_)
  show wpAny _ X.A.in1 (callAny (.ref u) ⟨us, []⟩) _ _ _
  simp only [callAny]
  refine wpAny_bind (wpAny_load hu ?_)
  simp only [kxs_mw, show (Value.type "method-wrapper" == Value.type "method" || Value.type "method-wrapper" == Value.type "builtin_function_or_method" || Value.type "method-wrapper" == Value.type "method-wrapper") = true by decide, if_true]
  refine KFB.if_so (by decide) ?_
  refine wpAny_bind (check_bound_init FB.toExcCallFacts (KI _ _ hC) ho rfl ?_)
  refine wpAny_bind (wpAny_pure (wpAny_pure ?_))
  refine ⟨plainId_quiet FB.init.plain _, codeAny_builtin FB.initEntry ?_⟩
  exact exc_init_tree (cls := .ref C) (t0 := t1) (dv := none) (c2 := .none) (c3 := .none) (b4 := .bool false) ho hl fun h' kk e' _ => fin h' kk e'
theorem one_look {n y : Str} {cc c : Addr} (h : List.lookup y [(n, cc)] = some c) : y = n ∧ c = cc := by
  have h : (match y == n with
    | true => some cc
    | false => none) = some c := h
  cases e : y == n with
  | true => rw [e] at h; cases h; exact ⟨eq_of_beq e, rfl⟩
  | false => rw [e] at h; cases h
/-- THE RULE for such an __init__: its first row's argument ta, its other rows t -/
theorem fn_super {rest : List Stmt} {e1 : Expr} {p0 p1 p2 p3 p4 : Pos} {sp : Sp} {oc kV doc pm ct : Value} {od an : Option Addr} {osl : Array (Option Value)} {D cc : Addr} {slf : Str} {name qual : Str} {params : Arguments} {scope : Scope} {cda : Addr}
    (lk : K.lookup f = some ⟨oc, od, .func (fnX name qual params (.Expr (.Call (.Attribute (.Call (.Name "super" p0) [] [] p1) "__init__" p2) [e1] [] p3) p4 :: rest) scope [(("__class__" : Str), cc)] .none kV doc pm an (.ref cda) ct), osl⟩)
    (hF : F = ⟨name, qual, params, .Expr (.Call (.Attribute (.Call (.Name "super" p0) [] [] p1) "__init__" p2) [e1] [] p3) p4 :: rest, scope, [(("__class__" : Str), cc)], cda⟩)
    (hcd : codeIn K (.ref cda) qual = true) (S : NdefX.NScope N ps ["__class__"] scope) (B : SupI P K mg f D cc F slf) (h0 : N[0]? = some slf)
    (len : ∀ vs H Q E, sp vs H Q E → vs.length = ps.length)
    (hbody : ∀ (A : Around) (outer : List Env) (s : Shared) (H : Hp) (vs : List V) (Q : VK) (E : XK), Room k (A.deeper (NdefX.envF F f s.heap.objs.size)) → sp vs H Q E →
      ∃ (a C : Addr) (ws : List V) (ta : TA) (t : TS), vs = .ref a :: ws ∧ SupC K D C ∧ H a = some (exo a C none) ∧ PA (NdefX.ncx CX P w K mg base N F f A outer s H E) [e1] ta ∧ PSs (NdefX.ncx CX P w K mg base N F f A outer s H E) rest t ∧
        ta (NdefX.startF N vs [none]) H fun us H1 => us.length ≤ 1000 ∧ H1 a = some (exo a C none) ∧ t { nx := fun _ H' => Q .non H', rt := Q } (NdefX.startF N vs [none]) H1)
    (hm : ∀ L, eval (.Call (.Attribute (.Call (.Name "super" p0) [] [] p1) "__init__" p2) [e1] [] p3) (NdefX.envF F f L) = (do
      let ov ← attributeBase (.Call (.Name "super" p0) [] [] p1) "__init__" (NdefX.envF F f L) (eval (.Call (.Name "super" p0) [] [] p1) (NdefX.envF F f L))
      standAt p2.atName
      let (f', first) ← holding [ov] (getMethod ov "__init__" (pure false))
      callWith p3 f' first (backTo p3 (starEach [e1] (NdefX.envF F f L))) []) := by exact fun _ => rfl)
    (hst : ∀ L, starEach [e1] (NdefX.envF F f L) = (false, eval e1 (NdefX.envF F f L)) :: starEach [] (NdefX.envF F f L) := by exact fun _ => rfl)
    (hin : ∀ L, interactive (NdefX.envF F f L) = false := by exact fun _ => rfl) (hsw : ∀ L, swapsWith (.Call (.Attribute (.Call (.Name "super" p0) [] [] p1) "__init__" p2) [e1] [] p3) none p4.line (NdefX.envF F f L) = pure false := by exact fun _ => rfl) :
    FnOk P w K mg base CX (k + 1) f (fnX name qual params (.Expr (.Call (.Attribute (.Call (.Name "super" p0) [] [] p1) "__init__" p2) [e1] [] p3) p4 :: rest) scope [(("__class__" : Str), cc)] .none kV doc pm an (.ref cda) ct) ps sp := by
  subst hF
  refine ⟨len, fun A outer s H args us vs Q E hr e0 hb r hsp => ?_⟩
  have hl := len _ _ _ _ hsp
  have KX : K.In s.heap := e0.mod.kin.keeps fun b o e => (e0.bs b o e).1
  have lim : s.heap.NoLimit := e0.mod.nolimit.keeps fun b o e => (e0.bs b o e).1
  refine codeAny_call_function hr.depth (KX _ _ lk) rfl S.co S.gen rfl (codeRec_of KX hcd) (hb _ _ _ _ ?_)
  refine wpAny_newFunctionEnv S.nocell (fun ⟨n, _⟩ hy => S.par n (List.of_mem_zip hy).1) (fun h₁ hns hsb => ⟨lim.fresh _ hsb, ?_⟩) S.kind
  generalize hF : (⟨name, qual, params, .Expr (.Call (.Attribute (.Call (.Name "super" p0) [] [] p1) "__init__" p2) [e1] [] p3) p4 :: rest, scope, [(("__class__" : Str), cc)], cda⟩ : NdefX.NF) = F at *
  show codeAny _ _ (.func (.Expr (.Call (.Attribute (.Call (.Name "super" p0) [] [] p1) "__init__" p2) [e1] [] p3) p4 :: rest) (callEnv (fnX name qual params (.Expr (.Call (.Attribute (.Call (.Name "super" p0) [] [] p1) "__init__" p2) [e1] [] p3) p4 :: rest) scope [(("__class__" : Str), cc)] .none kV doc pm an (.ref cda) ct) s.heap.objs.size f)) _ _
  have ee : callEnv (fnX name qual params (.Expr (.Call (.Attribute (.Call (.Name "super" p0) [] [] p1) "__init__" p2) [e1] [] p3) p4 :: rest) scope [(("__class__" : Str), cc)] .none kV doc pm an (.ref cda) ct) s.heap.objs.size f = NdefX.envF F f s.heap.objs.size := by subst hF; rfl
  rw [ee]
  refine ks_codeAny_funcAt ?_
  have kp : ∀ b o, s.heap.get? b = some o → h₁.get? b = some o := fun b o e => hsb.extBut b o (Nat.ne_of_lt (Heap.lt_size e)) (Heap.get?_push_of_some _ e)
  obtain ⟨a, C, ws, ta, t, ev, T, ha, pa, ps', hq⟩ := hbody A outer s H vs Q E (hr.deeper _) hsp
  obtain ⟨oc2, od2, osl2, hcell⟩ := B.cell
  have CA : NdefX.CellsAt F.cl ["__class__"] [none] s.heap H := by
    refine ⟨rfl, fun y c e => ?_, fun x y c e1 e2 => ?_, fun i y e => ?_⟩
    · rw [B.clo] at e
      obtain ⟨_, rfl⟩ := one_look e
      obtain ⟨q1, q2⟩ := e0.bs _ _ (e0.mod.kin _ _ hcell)
      exact ⟨q2, _, ⟨_, q1, rfl⟩⟩
    · rw [B.clo] at e1 e2
      rw [(one_look e1).1, (one_look e2).1]
    · cases i with
      | zero =>
        have e : some ("__class__" : Str) = some y := e
        cases e
        exact ⟨cc, by rw [B.clo]; rfl, fun v z => by cases z⟩
      | succ i => cases e
  have I : Inv (NdefX.ncx CX P w K mg base N F f A outer s H E) [] (NdefX.startF N vs [none]) H { s with heap := h₁, toks := s.toks + (ps.zip us).length } := NdefX.inv_startN (by rw [← hF]; exact S) hr.hd e0 hl r CA hns kp
  have hv : (NdefX.startF N vs [none])[0]? = some (some (V.ref a)) := by rw [ev]; rfl
  refine ks_wpAt_execs_cons (ks_wpAt_Expr_any (ks_wpAt_MethodCall (sup_obj (X := NdefX.ncx CX P w K mg base N F f A outer s H E) B T rfl (by decide) I h0 hv ha fun h' hso kk => ?_) (hm _)) (hin _) (hsw _))
  have I2 := I.kept (t' := s.toks + (ps.zip us).length) kk
  refine sup_meth (X := NdefX.ncx CX P w K mg base N F f A outer s H E) T B.opq I2 ha hso ?_
  have I3 := I2.kept (t' := s.toks + (ps.zip us).length + 1) (h' := h'.push (kxs_mw "ValueError.__init__" a)) fun b o e => Heap.get?_push_of_some _ e
  have hu : (h'.push (kxs_mw "ValueError.__init__" a)).get? h'.objs.size = some (kxs_mw "ValueError.__init__" a) := Heap.get?_push_size _ rfl
  have I4 := I3.pins_of (pins' := [(h'.objs.size, kxs_mw "ValueError.__init__" a)]) fun p hp => by
    rw [List.mem_singleton] at hp
    subst hp
    refine ⟨hu, I2.hok.fresh (Nat.le_refl _), fun z => ?_, fun z => ?_, fun v z => by cases z⟩
    · have q := I2.lt
      have z : h'.objs.size = (NdefX.ncx CX P w K mg base N F f A outer s H E).env.locals := z
      rw [← z] at q
      exact absurd q (Nat.lt_irrefl _)
    · obtain ⟨o, ho, _⟩ := (I2.ok.funs.mem z).2
      have z1 : h'.objs.size < s.heap.objs.size := Heap.lt_size (show s.heap.get? h'.objs.size = some o from ho)
      have z2 : s.heap.objs.size ≤ h'.objs.size := I2.sz
      exact absurd z1 (Nat.not_lt.mpr z2)
  show wpAny _ _ (callWith p3 (.ref h'.objs.size) [] (backTo p3 (starEach [e1] (NdefX.envF F f s.heap.objs.size))) []) _ _ _
  rw [hst]
  refine kxs_callWith (i := "ValueError.__init__") (x := a) rfl (Calls.evalArgs_plain ?_)
  have pr := pa.run p3 _ _ _ _ _ I4 hq
  change wpAny _ _ (spliced (backTo p3 (starEach [e1] (NdefX.envF F f s.heap.objs.size)))) _ _ _ at pr
  rw [hst] at pr
  refine thn pr fun us' s4 ⟨vs', H1, J, r1, hz, ha1, q1⟩ => ?_
  have hu4 : s4.heap.get? h'.objs.size = some (kxs_mw "ValueError.__init__" a) := (J.pin _ (List.mem_append_right _ List.mem_cons_self)).1
  refine ⟨hu4, sup_call T J ha1 hu4 (by
    show us'.length ≤ _
    rw [← r1.length]
    exact Nat.le_trans hz (by unfold PySem.sizeLine; decide)) fun s5 J5 => ?_⟩
  have J6 := J5.pins_of (pins' := []) fun p hp => by cases hp
  refine wpAt_of_wpAny (wpAny_mono (ps'.run [] _ _ _ _ J6 q1) (fun fl s' hs => ?_) fun e s' hs => hs)
  have fin : ∀ {σ' : L2.St} {H' : Hp} {v : V} {u : Value}, Inv (NdefX.ncx CX P w K mg base N F f A outer s H E) [] σ' H' s' → L2.RelV v u → Q v H' → CE outer P w H s Q u s' :=
    fun {σ' H' v u} J rv q => ⟨v, H', J.os, J.bare, J.base, J.hok, rv, q⟩
  cases fl with
  | ret u =>
    obtain ⟨v, σ', H', J, rv, q⟩ := hs
    exact fin J rv q
  | next =>
    obtain ⟨σ', H', J, q⟩ := hs
    exact fin (v := V.non) (u := Value.none) J rfl q
  | brk =>
    obtain ⟨_, _, _, q⟩ := hs
    exact False.elim q
  | cont =>
    obtain ⟨_, _, _, q⟩ := hs
    exact False.elim q
end
end M

namespace M
open PySem PySem.Spec L2
/-! ### f-strings -/
def mFmtR (f : FE) : FE := fun sl st => bnd (f sl st) fun x st => match x with
  | .str y => if (reprText y).length ≤ sizeLine then ret (.str (reprText y)) st else none
  | .int i => if i.natAbs.log2 < 1920 then ret (.str (toString i)) st else none
  | _ => none
def mJs : List FE → Str → FE
  | [], acc => fun _ st => ret (.str acc) st
  | f :: fs, acc => fun sl st => bnd (f sl st) fun x st => match x with
    | .str y => if (acc ++ y).length ≤ sizeLine then mJs fs (acc ++ y) sl st else none
    | _ => none
section
variable {X : Cx} {E : XK} {K : PySem.W.Frag} {a b c e o i : Expr} {es rest : List Expr} {fa fb fc fi : FE} {fs : FA} {ta tb tc : TE} {pos apos cpos p : Pos}
theorem me_fmtR (he : ME X E e fa) : ME X E (.FormattedValue e 114 none pos) (mFmtR fa) := by
  obtain ⟨t, p, q⟩ := he.ex
  refine ⟨_, pe_fmtR p, fun sl σ w Q o s h => ?_⟩
  refine q sl σ w _ o s (post_bnd h fun x dx w1 o1 s1 rx hp => ?_)
  cases dx with
  | str y =>
    obtain ⟨hl, hp⟩ := post_ite hp
    exact .inl ⟨y, rx.str_inv, hl, post_ret o1 (.str _) hp⟩
  | int i =>
    obtain ⟨hl, hp⟩ := post_ite hp
    exact .inr ⟨i, rx.int_inv, hl, post_ret o1 (.str _) hp⟩
  | _ => exact hp.elim
inductive MJ (X : Cx) (E : XK) : List Expr → List FE → Prop where
  | nil : MJ X E [] []
  | cons {e : Expr} {f : FE} {es : List Expr} {fs : List FE} (h : ME X E e f) (r : MJ X E es fs) : MJ X E (e :: es) (f :: fs)
theorem mj_ex {es : List Expr} {fs : List FE} (h : MJ X E es fs) : ∃ ts, PJ X es ts ∧ ∀ acc sl σ w (Q : VK), Ok X.K w → Slots X.K w sl σ → Post X.K E (rD X.K) w (mJs fs acc sl w.st) Q → tJs ts acc σ w.H fun out H1 => Q (.str out) H1 := by
  induction h with
  | nil => exact ⟨[], .nil, fun acc sl σ w Q o s h => post_ret o (.str acc) h⟩
  | cons h r ih =>
    obtain ⟨t, p, q⟩ := h.ex
    obtain ⟨ts, ps, qs⟩ := ih
    refine ⟨t :: ts, .cons p ps, fun acc sl σ w Q o s h => ?_⟩
    refine q sl σ w _ o s (post_bnd h fun x dx w1 o1 s1 rx hp => ?_)
    cases dx with
    | str y =>
      obtain ⟨hl, hp⟩ := post_ite hp
      exact ⟨y, rx.str_inv, hl, qs _ sl σ w1 Q o1 (s.step s1) hp⟩
    | _ => exact hp.elim
theorem me_joined {v1 v2 : Expr} {rest : List Expr} {fs : List FE} (h : MJ X E (v1 :: v2 :: rest) fs) : ME X E (.JoinedStr (v1 :: v2 :: rest) pos) (mJs fs Str.empty) := by
  obtain ⟨ts, p, q⟩ := mj_ex h
  exact ⟨_, pe_joined p, fun sl σ w Q o s h => q _ sl σ w Q o s h⟩
end
/-- says the same, whatever the store -/
def Calm (f : FE) (g : Sl → Option D) : Prop := ∀ sl st, f sl st = lift (g sl) st
theorem calm_C (d : D) : Calm (mC d) fun _ => some d := fun _ _ => rfl
theorem calm_var (i : Nat) : Calm (mVar i) fun sl => gv sl i := fun _ _ => rfl
def fmtD : D → Option D
  | .str y => if (reprText y).length ≤ sizeLine then some (.str (reprText y)) else none
  | .int i => if i.natAbs.log2 < 1920 then some (.str (toString i)) else none
  | _ => none
theorem calm_fmtR {f : FE} {g : Sl → Option D} (h : Calm f g) : Calm (mFmtR f) fun sl => (g sl).bind fmtD := fun sl st => by
  unfold mFmtR
  rw [h]
  show _ = lift ((g sl).bind fmtD) st
  cases g sl with
  | none => rfl
  | some d =>
    cases d with
    | str y =>
      show (if (reprText y).length ≤ sizeLine then ret (D.str (reprText y)) st else none) = lift (if (reprText y).length ≤ sizeLine then some (D.str (reprText y)) else none) st
      by_cases z : (reprText y).length ≤ sizeLine
      · rw [if_pos z, if_pos z]; rfl
      · rw [if_neg z, if_neg z]; rfl
    | int i =>
      show (if i.natAbs.log2 < 1920 then ret (D.str (toString i)) st else none) = lift (if i.natAbs.log2 < 1920 then some (D.str (toString i)) else none) st
      by_cases z : i.natAbs.log2 < 1920
      · rw [if_pos z, if_pos z]; rfl
      · rw [if_neg z, if_neg z]; rfl
    | _ => rfl
def joinD : List (Sl → Option D) → Str → Sl → Option D
  | [], acc, _ => some (.str acc)
  | g :: gs, acc, sl => match g sl with
    | some (.str y) => if (acc ++ y).length ≤ sizeLine then joinD gs (acc ++ y) sl else none
    | _ => none
inductive Calms : List FE → List (Sl → Option D) → Prop where
  | nil : Calms [] []
  | cons {f : FE} {g : Sl → Option D} {fs : List FE} {gs : List (Sl → Option D)} (h : Calm f g) (r : Calms fs gs) : Calms (f :: fs) (g :: gs)
theorem calm_js : ∀ {fs : List FE} {gs : List (Sl → Option D)}, Calms fs gs → ∀ acc, Calm (mJs fs acc) (joinD gs acc)
  | _, _, .nil, acc => fun _ _ => rfl
  | _, _, .cons (f := f) (g := g) (fs := fs) (gs := gs) h r, acc => fun sl st => by
    unfold mJs joinD
    rw [h]
    cases g sl with
    | none => rfl
    | some d =>
      cases d with
      | str y =>
        show (if (acc ++ y).length ≤ sizeLine then mJs fs (acc ++ y) sl st else none) = lift (if (acc ++ y).length ≤ sizeLine then joinD gs (acc ++ y) sl else none) st
        by_cases z : (acc ++ y).length ≤ sizeLine
        · rw [if_pos z, if_pos z]; exact calm_js r _ sl st
        · rw [if_neg z, if_neg z]; rfl
      | _ => rfl
/-! ### an error's attributes last -/
theorem repx_step {K : PySem.W.Frag} {w w' : Ws} {e : Exn} {d : Option Addr} (o : Ok K w) (s : Step w w') (h : RepX K w e d) : RepX K w' e d := by
  cases d with
  | none => exact h
  | some d =>
    obtain ⟨vs, h1, h2, h3, h4⟩ := h
    have no : ¬ Own w d := fun ⟨i, ⟨c, l⟩, z⟩ => by
      obtain ⟨a, e1, _, ca⟩ := o.own i c l
      rw [z] at e1
      cases e1
      cases ca with
      | lst q _ => rw [h1] at q; cases q
      | dct q _ _ => rw [h1] at q; cases q
      | dcT q _ _ => rw [h1] at q; cases q
      | ins q _ _ => rw [h1] at q; cases q
    refine ⟨vs, s.frame _ _ h1 no, ?_, h3, h4.mono s.le s.pre⟩
    rw [s.old d (by rw [h1]; exact Option.some_ne_none _) (fun xs z => by rw [h1] at z; cases z) no]
    exact h2
/-! ### the world beside an error in the making -/
/-- another object at a free place that is none of ours -/
def Ws.more (w : Ws) (a : Addr) (o : HO) : Ws := ⟨w.st, w.al, w.F, upd w.H a o⟩
theorem own_more {w : Ws} {a b : Addr} {o : HO} : Own (w.more a o) b ↔ Own w b := Iff.rfl
theorem ok_more {K : PySem.W.Frag} {w : Ws} {a : Addr} {o : HO} (ok : Ok K w) (hF : w.F a = none) (no : ¬ Own w a) : Ok K (w.more a o) := by
  refine ⟨ok.len, fun b u h => ?_, fun i c h => ?_, ok.inj⟩
  · have h : w.F b = some u := h
    have : b ≠ a := fun z => by rw [z, hF] at h; cases h
    show upd w.H a o b = some u
    rw [upd_ne this]
    exact ok.sub b u h
  · obtain ⟨b, e1, e2, ca⟩ := ok.own i c h
    refine ⟨b, e1, e2, ca.mono (Le.refl _) (Pre.refl _) ?_⟩
    show upd w.H a o b = w.H b
    exact upd_ne fun z => no (by rw [← z]; exact ⟨i, ⟨c, h⟩, e1⟩)
theorem free_F {K : PySem.W.Frag} {w : Ws} (ok : Ok K w) {a : Addr} (h : w.H a = none) : w.F a = none := by
  cases q : w.F a with
  | none => rfl
  | some u => rw [ok.sub a u q] at h; cases h
theorem free_own {K : PySem.W.Frag} {w : Ws} (ok : Ok K w) {a : Addr} (h : w.H a = none) : ¬ Own w a := fun ⟨i, ⟨c, l⟩, z⟩ => by
  obtain ⟨b, e1, _, ca⟩ := ok.own i c l
  rw [z] at e1
  cases e1
  exact ca.some h
/-- an error with one attribute: its __init__'s promise -/
def spE1 (K : PySem.W.Frag) (D : Addr) (fld : Str) (g : Sl → Option M.D) : Sp := fun vs H Q E => ∃ (w : Ws) (a C : Addr) (x : V) (d y : M.D), vs = [.ref a, x] ∧ w.H = H ∧ Ok K w ∧ SupC K D C ∧ PySem.W.findIn K (.ref C) fld = some none ∧ H a = some (exo a C none) ∧ w.F a = none ∧ ¬ Own w a ∧ Rep K w.F w.al x d ∧
  g [none, some d, none] = some y ∧ ∀ w', w'.st = w.st → Ok K w' → Step w w' → ∀ dx, w'.H dx = none → dx ≠ a → Q .non (upd (upd w'.H dx (exd dx [(fld, x)])) a (exo a C (some dx)))
theorem fn_err1 {CX : CXT} {P : Program} {w : World} {K : PySem.W.Frag} {mg : Str → Option Value} {base : Heap} {F : NdefX.NF} {f : Addr} {k : Nat}
    {e1 : Expr} {p0 p1 p2 p3 p4 q0 q1 q2 q3 : Pos} {oc kV doc pm ct : Value} {od an : Option Addr} {osl : Array (Option Value)} {D cc : Addr} {slf xn fld : Str} {name qual : Str} {params : Arguments} {scope : Scope} {cda : Addr} {fe : FE} {g : Sl → Option M.D}
    (lk : K.lookup f = some ⟨oc, od, .func (PySem.W.fnX name qual params [.Expr (.Call (.Attribute (.Call (.Name "super" p0) [] [] p1) "__init__" p2) [e1] [] p3) p4, .Assign [.Attribute (.Name slf q0) fld q1] (.Name xn q2) q3] scope [(("__class__" : Str), cc)] .none kV doc pm an (.ref cda) ct), osl⟩)
    (hF : F = ⟨name, qual, params, [.Expr (.Call (.Attribute (.Call (.Name "super" p0) [] [] p1) "__init__" p2) [e1] [] p3) p4, .Assign [.Attribute (.Name slf q0) fld q1] (.Name xn q2) q3], scope, [(("__class__" : Str), cc)], cda⟩)
    (hcd : PySem.W.codeIn K (.ref cda) qual = true) (S : NdefX.NScope [slf, xn, "__class__"] [slf, xn] ["__class__"] scope) (B : SupI P K mg f D cc F slf)
    (hdb : (xn == ("__debug__" : Str)) = false) (hcb : (xn == ("__classdict__" : Str)) = false) (hdb0 : (slf == ("__debug__" : Str)) = false) (hcb0 : (slf == ("__classdict__" : Str)) = false)
    (hmsg : ∀ (A : Around) (outer : List Env) (s : Shared) (H : Hp) (E : XK), ME (NdefX.ncx CX P w K mg base [slf, xn, "__class__"] F f A outer s H E) E e1 fe) (hfe : Calm fe g)
    (hm : ∀ L, eval (.Call (.Attribute (.Call (.Name "super" p0) [] [] p1) "__init__" p2) [e1] [] p3) (NdefX.envF F f L) = (do
      let ov ← attributeBase (.Call (.Name "super" p0) [] [] p1) "__init__" (NdefX.envF F f L) (eval (.Call (.Name "super" p0) [] [] p1) (NdefX.envF F f L))
      standAt p2.atName
      let (f', first) ← holding [ov] (getMethod ov "__init__" (pure false))
      callWith p3 f' first (backTo p3 (starEach [e1] (NdefX.envF F f L))) []) := by exact fun _ => rfl)
    (hin : ∀ L, interactive (NdefX.envF F f L) = false := by exact fun _ => rfl) (hst : ∀ L, starEach [e1] (NdefX.envF F f L) = (false, eval e1 (NdefX.envF F f L)) :: starEach [] (NdefX.envF F f L) := by exact fun _ => rfl)
    (hsw : ∀ L, swapsWith (.Call (.Attribute (.Call (.Name "super" p0) [] [] p1) "__init__" p2) [e1] [] p3) none p4.line (NdefX.envF F f L) = pure false := by exact fun _ => rfl)
    (hsw2 : ∀ L, swapsWith (.Name xn q2) (some (.Attribute (.Name slf q0) fld q1)) q3.line (NdefX.envF F f L) = pure false := by exact fun _ => rfl) :
    FnOk P w K mg base CX (k + 1) f (PySem.W.fnX name qual params [.Expr (.Call (.Attribute (.Call (.Name "super" p0) [] [] p1) "__init__" p2) [e1] [] p3) p4, .Assign [.Attribute (.Name slf q0) fld q1] (.Name xn q2) q3] scope [(("__class__" : Str), cc)] .none kV doc pm an (.ref cda) ct) [slf, xn] (spE1 K D fld g) := by
  have sc : F.scope = scope := by rw [hF]
  refine fn_super (N := [slf, xn, "__class__"]) lk hF hcd S B rfl (fun vs H Q E ⟨_, _, _, _, _, _, e, _⟩ => by rw [e]; rfl) (fun A outer s H vs Q E hr hsp => ?_) (hst := hst) (hsw := hsw) (hin := hin) (hm := hm)
  obtain ⟨wd, a, C, x, d, y, ev, eH, ok, T, hno, ha, hFa, noa, rx, hg, hq⟩ := hsp
  subst eH
  obtain ⟨t, p, q⟩ := (hmsg A outer s wd.H E).ex
  have v0 : PE (NdefX.ncx CX P w K mg base [slf, xn, "__class__"] F f A outer s wd.H E) (.Name slf q0) (tVar 0) := pe_var (X := NdefX.ncx CX P w K mg base [slf, xn, "__class__"] F f A outer s wd.H E) rfl (.inl (by show F.scope.names.lookup slf = _; rw [sc]; exact S.par _ (by simp))) hdb0 hcb0
  have v1 : PE (NdefX.ncx CX P w K mg base [slf, xn, "__class__"] F f A outer s wd.H E) (.Name xn q2) (tVar 1) := pe_var (X := NdefX.ncx CX P w K mg base [slf, xn, "__class__"] F f A outer s wd.H E) rfl (.inl (by show F.scope.names.lookup xn = _; rw [sc]; exact S.par _ (by simp))) hdb hcb
  refine ⟨a, C, [x], _, _, ev, T, ha, pa_cons p pa_nil (hst _), pss_one (ps_ost v0 v1 (hsw2 _)), ?_⟩
  subst ev
  have sl : Slots K wd [none, some d, none] (NdefX.startF [slf, xn, "__class__"] [V.ref a, x] [none]) := by
    refine ⟨rfl, fun i z e => ?_⟩
    match i, e with
    | 0, e => cases e
    | 1, e => cases e; exact ⟨x, rfl, rx⟩
    | 2, e => cases e
    | n + 3, e => cases e
  refine q _ _ wd _ ok sl ?_
  rw [hfe, hg]
  intro v w' est o' st' rv
  have ha' : w'.H a = some (exo a C none) := st'.frame _ _ ha noa
  exact ⟨by show 1 ≤ 1000; decide, ha', x, rfl, V.ref a, rfl, a, C, rfl, T.oex, hno, .inl ⟨ha', fun dx h1 h2 => hq w' est o' st' dx h1 h2⟩⟩
/-- an error with two attributes: its __init__'s promise -/
def spE2 (K : PySem.W.Frag) (D : Addr) (f1 f2 : Str) (g : Sl → Option M.D) : Sp := fun vs H Q E => ∃ (w : Ws) (a C : Addr) (x1 x2 : V) (d1 d2 y : M.D), vs = [.ref a, x1, x2] ∧ w.H = H ∧ Ok K w ∧ SupC K D C ∧ PySem.W.findIn K (.ref C) f1 = some none ∧ PySem.W.findIn K (.ref C) f2 = some none ∧ H a = some (exo a C none) ∧ w.F a = none ∧ ¬ Own w a ∧ Rep K w.F w.al x1 d1 ∧ Rep K w.F w.al x2 d2 ∧
  g [none, some d1, some d2, none] = some y ∧ ∀ w', w'.st = w.st → Ok K w' → Step w w' → ∀ dx, w'.H dx = none → dx ≠ a → Q .non (upd (upd (upd w'.H dx (exd dx [(f1, x1)])) a (exo a C (some dx))) dx (exd dx [(f2, x2), (f1, x1)]))
theorem fn_err2 {CX : CXT} {P : Program} {w : World} {K : PySem.W.Frag} {mg : Str → Option Value} {base : Heap} {F : NdefX.NF} {f : Addr} {k : Nat}
    {e1 : Expr} {p0 p1 p2 p3 p4 q0 q1 q2 q3 r0 r1 r2 r3 : Pos} {oc kV doc pm ct : Value} {od an : Option Addr} {osl : Array (Option Value)} {D cc : Addr} {slf x1n x2n f1 f2 : Str} {name qual : Str} {params : Arguments} {scope : Scope} {cda : Addr} {fe : FE} {g : Sl → Option M.D}
    (lk : K.lookup f = some ⟨oc, od, .func (PySem.W.fnX name qual params [.Expr (.Call (.Attribute (.Call (.Name "super" p0) [] [] p1) "__init__" p2) [e1] [] p3) p4, .Assign [.Attribute (.Name slf q0) f1 q1] (.Name x1n q2) q3, .Assign [.Attribute (.Name slf r0) f2 r1] (.Name x2n r2) r3] scope [(("__class__" : Str), cc)] .none kV doc pm an (.ref cda) ct), osl⟩)
    (hF : F = ⟨name, qual, params, [.Expr (.Call (.Attribute (.Call (.Name "super" p0) [] [] p1) "__init__" p2) [e1] [] p3) p4, .Assign [.Attribute (.Name slf q0) f1 q1] (.Name x1n q2) q3, .Assign [.Attribute (.Name slf r0) f2 r1] (.Name x2n r2) r3], scope, [(("__class__" : Str), cc)], cda⟩)
    (hcd : PySem.W.codeIn K (.ref cda) qual = true) (S : NdefX.NScope [slf, x1n, x2n, "__class__"] [slf, x1n, x2n] ["__class__"] scope) (B : SupI P K mg f D cc F slf)
    (hdb : (x1n == ("__debug__" : Str)) = false) (hcb : (x1n == ("__classdict__" : Str)) = false) (hdb2 : (x2n == ("__debug__" : Str)) = false) (hcb2 : (x2n == ("__classdict__" : Str)) = false) (hdb0 : (slf == ("__debug__" : Str)) = false) (hcb0 : (slf == ("__classdict__" : Str)) = false)
    (hmsg : ∀ (A : Around) (outer : List Env) (s : Shared) (H : Hp) (E : XK), ME (NdefX.ncx CX P w K mg base [slf, x1n, x2n, "__class__"] F f A outer s H E) E e1 fe) (hfe : Calm fe g)
    (hm : ∀ L, eval (.Call (.Attribute (.Call (.Name "super" p0) [] [] p1) "__init__" p2) [e1] [] p3) (NdefX.envF F f L) = (do
      let ov ← attributeBase (.Call (.Name "super" p0) [] [] p1) "__init__" (NdefX.envF F f L) (eval (.Call (.Name "super" p0) [] [] p1) (NdefX.envF F f L))
      standAt p2.atName
      let (f', first) ← holding [ov] (getMethod ov "__init__" (pure false))
      callWith p3 f' first (backTo p3 (starEach [e1] (NdefX.envF F f L))) []) := by exact fun _ => rfl)
    (hin : ∀ L, interactive (NdefX.envF F f L) = false := by exact fun _ => rfl) (hst : ∀ L, starEach [e1] (NdefX.envF F f L) = (false, eval e1 (NdefX.envF F f L)) :: starEach [] (NdefX.envF F f L) := by exact fun _ => rfl)
    (hsw : ∀ L, swapsWith (.Call (.Attribute (.Call (.Name "super" p0) [] [] p1) "__init__" p2) [e1] [] p3) none p4.line (NdefX.envF F f L) = pure false := by exact fun _ => rfl)
    (hsw2 : ∀ L, swapsWith (.Name x1n q2) (some (.Attribute (.Name slf q0) f1 q1)) q3.line (NdefX.envF F f L) = pure false := by exact fun _ => rfl)
    (hsw3 : ∀ L, swapsWith (.Name x2n r2) (some (.Attribute (.Name slf r0) f2 r1)) r3.line (NdefX.envF F f L) = pure false := by exact fun _ => rfl) :
    FnOk P w K mg base CX (k + 1) f (PySem.W.fnX name qual params [.Expr (.Call (.Attribute (.Call (.Name "super" p0) [] [] p1) "__init__" p2) [e1] [] p3) p4, .Assign [.Attribute (.Name slf q0) f1 q1] (.Name x1n q2) q3, .Assign [.Attribute (.Name slf r0) f2 r1] (.Name x2n r2) r3] scope [(("__class__" : Str), cc)] .none kV doc pm an (.ref cda) ct) [slf, x1n, x2n] (spE2 K D f1 f2 g) := by
  have sc : F.scope = scope := by rw [hF]
  refine fn_super (N := [slf, x1n, x2n, "__class__"]) lk hF hcd S B rfl (fun vs H Q E ⟨_, _, _, _, _, _, _, _, e, _⟩ => by rw [e]; rfl) (fun A outer s H vs Q E hr hsp => ?_) (hst := hst) (hsw := hsw) (hin := hin) (hm := hm)
  obtain ⟨wd, a, C, x1, x2, d1, d2, y, ev, eH, ok, T, hno1, hno2, ha, hFa, noa, rx1, rx2, hg, hq⟩ := hsp
  subst eH
  obtain ⟨t, p, q⟩ := (hmsg A outer s wd.H E).ex
  have v0 : ∀ r, PE (NdefX.ncx CX P w K mg base [slf, x1n, x2n, "__class__"] F f A outer s wd.H E) (.Name slf r) (tVar 0) := fun r => pe_var (X := NdefX.ncx CX P w K mg base [slf, x1n, x2n, "__class__"] F f A outer s wd.H E) rfl (.inl (by show F.scope.names.lookup slf = _; rw [sc]; exact S.par _ (by simp))) hdb0 hcb0
  have v1 : PE (NdefX.ncx CX P w K mg base [slf, x1n, x2n, "__class__"] F f A outer s wd.H E) (.Name x1n q2) (tVar 1) := pe_var (X := NdefX.ncx CX P w K mg base [slf, x1n, x2n, "__class__"] F f A outer s wd.H E) rfl (.inl (by show F.scope.names.lookup x1n = _; rw [sc]; exact S.par _ (by simp))) hdb hcb
  have v2 : PE (NdefX.ncx CX P w K mg base [slf, x1n, x2n, "__class__"] F f A outer s wd.H E) (.Name x2n r2) (tVar 2) := pe_var (X := NdefX.ncx CX P w K mg base [slf, x1n, x2n, "__class__"] F f A outer s wd.H E) rfl (.inl (by show F.scope.names.lookup x2n = _; rw [sc]; exact S.par _ (by simp))) hdb2 hcb2
  refine ⟨a, C, [x1, x2], _, _, ev, T, ha, pa_cons p pa_nil (hst _), pss_cons (ps_ost (v0 q0) v1 (hsw2 _)) (pss_one (ps_ost (v0 r0) v2 (hsw3 _))), ?_⟩
  subst ev
  have sl : Slots K wd [none, some d1, some d2, none] (NdefX.startF [slf, x1n, x2n, "__class__"] [V.ref a, x1, x2] [none]) := by
    refine ⟨rfl, fun i z e => ?_⟩
    match i, e with
    | 0, e => cases e
    | 1, e => cases e; exact ⟨x1, rfl, rx1⟩
    | 2, e => cases e; exact ⟨x2, rfl, rx2⟩
    | 3, e => cases e
    | n + 4, e => cases e
  refine q _ _ wd _ ok sl ?_
  rw [hfe, hg]
  intro v w' est o' st' rv
  have ha' : w'.H a = some (exo a C none) := st'.frame _ _ ha noa
  refine ⟨by show 1 ≤ 1000; decide, ha', x1, rfl, V.ref a, rfl, a, C, rfl, T.oex, hno1, .inl ⟨ha', fun dx h1 h2 => ?_⟩⟩
  refine ⟨x2, rfl, V.ref a, rfl, a, C, rfl, T.oex, hno2, .inr ⟨dx, [(f1, x1)], upd_same, ?_, by show 1 ≤ 900; decide, hq w' est o' st' dx h1 h2⟩⟩
  rw [upd_ne h2, upd_same]
/-! ### raise C(e, ..) -/
def sRaise (C : Addr) (flds : List Str) (chk : List D → Option D) (fs : FA) : FS := fun sl st => bnd (fs sl st) fun ds st => if ds.length = flds.length ∧ (chk ds).isSome = true then some (.exc ⟨C, (flds.zip ds).reverse⟩ st) else none
/-- the world once the error is made: its dict alone is told -/
theorem world_made {K : PySem.W.Frag} {w w' : Ws} {a dx C : Addr} {fs : List (Str × V)} {H2 : Hp} (ok : Ok K w) (hn : w.H a = none) (s : Step (w.more a (exo a C none)) w') (o' : Ok K w') (hd : w'.H dx = none) (hda : dx ≠ a)
    (hH2 : ∀ b, b ≠ a → b ≠ dx → H2 b = w'.H b) : ∃ w3, w3.st = w'.st ∧ w3.al = w'.al ∧ w3.F = w'.F ∧ w3.H = upd (del H2 a) dx (.xd fs) ∧ Ok K w3 ∧ Step w w3 ∧ w3.F dx = none := by
  have no : ¬ Own (w.more a (exo a C none)) a := fun z => free_own ok hn z
  have ha : (w.more a (exo a C none)).H a = some (exo a C none) := upd_same
  have hFa : w'.F a = none := by
    rw [s.old a (by rw [ha]; exact Option.some_ne_none _) (fun xs z => by rw [ha] at z; cases z) no]
    exact free_F ok hn
  have hFd := free_F o' hd
  have noa : ¬ Own w' a := fun z => (s.news a z).elim no fun q => by rw [ha] at q; cases q
  have nod := free_own o' hd
  have val : ∀ b, b ≠ a → b ≠ dx → upd (del H2 a) dx (.xd fs) b = w'.H b := fun b h1 h2 => by rw [upd_ne h2, del_ne h1, hH2 b h1 h2]
  have hdw : w.H dx = none := by
    cases q : w.H dx with
    | none => rfl
    | some v =>
      refine absurd hd (s.there dx ?_)
      show upd w.H a (exo a C none) dx ≠ none
      rw [upd_ne hda, q]
      exact Option.some_ne_none _
  have up : ∀ b, b ≠ a → (w.more a (exo a C none)).H b = w.H b := fun b h => upd_ne h
  have nea : ∀ {b : Addr}, w.H b ≠ none → b ≠ a := fun h z => h (by rw [z]; exact hn)
  have ned : ∀ {b : Addr}, w.H b ≠ none → b ≠ dx := fun h z => h (by rw [z]; exact hdw)
  refine ⟨⟨w'.st, w'.al, w'.F, upd (del H2 a) dx (.xd fs)⟩, rfl, rfl, rfl, rfl, ⟨o'.len, fun b v h => ?_, fun i c h => ?_, o'.inj⟩, ⟨s.pre, s.le, fun b v h n => ?_, fun b h t n => ?_, fun b h => ?_, fun b h => ?_⟩, hFd⟩
  · have h : w'.F b = some v := h
    have h1 : b ≠ a := fun z => by rw [z, hFa] at h; cases h
    have h2 : b ≠ dx := fun z => by rw [z, hFd] at h; cases h
    exact (val b h1 h2).trans (o'.sub b v h)
  · obtain ⟨b, e1, e2, ca⟩ := o'.own i c h
    have h1 : b ≠ a := fun z => noa (by rw [← z]; exact ⟨i, ⟨c, h⟩, e1⟩)
    have h2 : b ≠ dx := fun z => nod (by rw [← z]; exact ⟨i, ⟨c, h⟩, e1⟩)
    exact ⟨b, e1, e2, ca.mono (Le.refl _) (Pre.refl _) (val b h1 h2)⟩
  · have hb : w.H b ≠ none := by rw [h]; exact Option.some_ne_none _
    exact (val b (nea hb) (ned hb)).trans (s.frame b v ((up b (nea hb)).trans h) n)
  · exact s.old b (by rw [up b (nea h)]; exact h) (fun xs z => t xs (by rw [up b (nea h)] at z; exact z)) n
  · show upd (del H2 a) dx (.xd fs) b ≠ none
    rw [val b (nea h) (ned h)]
    exact s.there b (by rw [up b (nea h)]; exact h)
  · rcases s.news b h with z | z
    · exact .inl z
    · by_cases e : b = a
      · rw [e]; exact .inr hn
      · rw [up b e] at z; exact .inr z
theorem ms_raise1 {X : Cx} {E : XK} {CX : CXT} {D C fI : Addr} {fld slf xn x : Str} {g : Sl → Option M.D} {k : Nat} {fd : FuncData} {e : Expr} {p cpos pos : Pos} {fs : FA} (hc : X.calm = true) (tk : Takes X fun c d _ H => E c d H) (T : SupC X.K D C) (hno : PySem.W.findIn X.K (.ref C) fld = some none) (iC : PySem.W.findIn X.K (.ref C) "__init__" = some (some (.ref fI)))
    (tI : PySem.W.typeIn X.K (.ref fI) = some (.type "function")) (F1 : FnOk X.prog X.w X.K X.mg X.base CX k fI fd [slf, xn] (spE1 X.K D fld g)) (hr : Room (k + 1) X.A) (hb : Binds X.K fd [slf, xn] []) (hx : Passes CX X (fun _ _ _ => False)) (hm : X.mg x = some (.ref C)) (ha : MA X E [e] fs) (hg : Gl X x := by rfl)
    (hdb : (x == ("__debug__" : Str)) = false := by decide) (he : starEach [e] X.env = (false, eval e X.env) :: starEach [] X.env := by rfl) (hpl : (backTo cpos (starEach [] X.env)).any (·.1) = false := by rfl) :
    MS X E (.Raise (some (.Call (.Name x p) [e] [] cpos)) none pos) (sRaise C [fld] (fun ds => g (none :: (ds.map some ++ [none]))) fs) := by
  obtain ⟨t, pp, q⟩ := ha.ex
  refine ⟨_, ps_raise hc tk (pmk_oex T.oex iC tI F1 hr hb (dvs := []) .nil hx hg hm pp hdb he hpl), fun sl σ w Dd o s h => ?_⟩
  refine q sl σ w _ o s (post_bndS h fun vs ds w1 o1 s1 r hp => ?_)
  obtain ⟨⟨hl, hchk⟩, hp⟩ := postS_ite (p := ds.length = [fld].length ∧ (g (none :: (ds.map some ++ [none]))).isSome = true) hp
  match ds, r, hl with
  | [d], r, _ =>
    obtain ⟨v, rfl, rv⟩ := r.one_inv
    obtain ⟨y, hy⟩ := Option.isSome_iff_exists.mp hchk
    refine ⟨by show 1 ≤ 1000; decide, fun a na => ?_⟩
    have hFa := free_F o1 na
    have noa := free_own o1 na
    refine ⟨w1.more a (exo a C none), a, C, v, d, y, rfl, rfl, ok_more o1 hFa noa, T, hno, upd_same, hFa, noa, rv, hy, fun w' est o' st' dx h1 h2 => ⟨rfl, dx, [(fld, v)], upd_same, ?_, ?_, ?_⟩⟩
    · rw [upd_ne h2, upd_same]
    · cases z : w1.H dx with
      | none => rfl
      | some u =>
        refine absurd h1 (st'.there dx ?_)
        show upd w1.H a (exo a C none) dx ≠ none
        rw [upd_ne h2, z]
        exact Option.some_ne_none _
    · obtain ⟨w3, e1, e2, e3, e4, o3, s3, f3⟩ := world_made (fs := [(fld, v)]) o1 na st' o' h1 h2 (H2 := upd (upd w'.H dx (exd dx [(fld, v)])) a (exo a C (some dx))) fun b h3 h4 => by rw [upd_ne h3, upd_ne h4]
      rw [← e4]
      refine hp (some dx) w3 (e1.trans est) o3 s3 ⟨[(fld, v)], by rw [e4, upd_same], f3, rfl, ?_⟩
      rw [e3, e2]
      have l : Le (w1.more a (exo a C none)).F w'.F := st'.le
      exact .cons (rv.mono l st'.pre) .nil
theorem ms_raise2 {X : Cx} {E : XK} {CX : CXT} {D C fI : Addr} {f1 f2 slf x1n x2n x : Str} {g : Sl → Option M.D} {k : Nat} {fd : FuncData} {e e' : Expr} {p cpos pos : Pos} {fs : FA} (hc : X.calm = true) (tk : Takes X fun c d _ H => E c d H) (T : SupC X.K D C) (hno1 : PySem.W.findIn X.K (.ref C) f1 = some none) (hno2 : PySem.W.findIn X.K (.ref C) f2 = some none) (iC : PySem.W.findIn X.K (.ref C) "__init__" = some (some (.ref fI)))
    (tI : PySem.W.typeIn X.K (.ref fI) = some (.type "function")) (F1 : FnOk X.prog X.w X.K X.mg X.base CX k fI fd [slf, x1n, x2n] (spE2 X.K D f1 f2 g)) (hr : Room (k + 1) X.A) (hb : Binds X.K fd [slf, x1n, x2n] []) (hx : Passes CX X (fun _ _ _ => False)) (hm : X.mg x = some (.ref C)) (ha : MA X E [e, e'] fs) (hg : Gl X x := by rfl)
    (hdb : (x == ("__debug__" : Str)) = false := by decide) (he : starEach [e, e'] X.env = (false, eval e X.env) :: starEach [e'] X.env := by rfl) (hpl : (backTo cpos (starEach [e'] X.env)).any (·.1) = false := by rfl) :
    MS X E (.Raise (some (.Call (.Name x p) [e, e'] [] cpos)) none pos) (sRaise C [f1, f2] (fun ds => g (none :: (ds.map some ++ [none]))) fs) := by
  obtain ⟨t, pp, q⟩ := ha.ex
  refine ⟨_, ps_raise hc tk (pmk_oex T.oex iC tI F1 hr hb (dvs := []) .nil hx hg hm pp hdb he hpl), fun sl σ w Dd o s h => ?_⟩
  refine q sl σ w _ o s (post_bndS h fun vs ds w1 o1 s1 r hp => ?_)
  obtain ⟨⟨hl, hchk⟩, hp⟩ := postS_ite (p := ds.length = [f1, f2].length ∧ (g (none :: (ds.map some ++ [none]))).isSome = true) hp
  match ds, r, hl with
  | [d1, d2], r, _ =>
    obtain ⟨v1, v2, rfl, rv1, rv2⟩ := r.two_inv
    obtain ⟨y, hy⟩ := Option.isSome_iff_exists.mp hchk
    refine ⟨by show 2 ≤ 1000; decide, fun a na => ?_⟩
    have hFa := free_F o1 na
    have noa := free_own o1 na
    refine ⟨w1.more a (exo a C none), a, C, v1, v2, d1, d2, y, rfl, rfl, ok_more o1 hFa noa, T, hno1, hno2, upd_same, hFa, noa, rv1, rv2, hy, fun w' est o' st' dx h1 h2 => ⟨rfl, dx, [(f2, v2), (f1, v1)], ?_, upd_same, ?_, ?_⟩⟩
    · rw [upd_ne h2.symm, upd_same]
    · cases z : w1.H dx with
      | none => rfl
      | some u =>
        refine absurd h1 (st'.there dx ?_)
        show upd w1.H a (exo a C none) dx ≠ none
        rw [upd_ne h2, z]
        exact Option.some_ne_none _
    · obtain ⟨w3, e1, e2, e3, e4, o3, s3, f3⟩ := world_made (fs := [(f2, v2), (f1, v1)]) o1 na st' o' h1 h2 (H2 := upd (upd (upd w'.H dx (exd dx [(f1, v1)])) a (exo a C (some dx))) dx (exd dx [(f2, v2), (f1, v1)])) fun b h3 h4 => by rw [upd_ne h4, upd_ne h3, upd_ne h4]
      rw [← e4]
      refine hp (some dx) w3 (e1.trans est) o3 s3 ⟨[(f2, v2), (f1, v1)], by rw [e4, upd_same], f3, rfl, ?_⟩
      rw [e3, e2]
      have l : Le (w1.more a (exo a C none)).F w'.F := st'.le
      exact .cons (rv2.mono l st'.pre) (.cons (rv1.mono l st'.pre) .nil)
/-! ### defs that may raise -/
section
variable {P : Program} {w : World} {K : PySem.W.Frag} {mg : Str → Option Value} {base : Heap}
theorem takes_cx {N : List Str} {qual : Str} {scope : Scope} {f : Addr} {cdv : Value} {A : Around} {outer : List Env} {s : Shared} {H : Hp} {E : XK} : Takes (cxOf (L2.CX P w) P w K mg base N qual scope f cdv A outer s H E) fun c d _ H => E c d H := takes_of rfl rfl rfl rfl
theorem fn_mX {x qual : Str} {st : Stmt} {f : Addr} {fd : FuncData} {N ps : List Str} {k : Nat} {g : FS} (F : Fun K x qual st f fd) (S : FnScope N ps (defScope st))
    (hb : ∀ (cdv : Value) (A : Around) (outer : List Env) (s : Shared) (H : Hp) (E : XK), Room k (A.deeper (PyProof.Rows.envOfC qual (defScope st) s.heap.objs.size f cdv)) → MSs (cxOf (L2.CX P w) P w K mg base N qual (defScope st) f cdv A outer s H E) E (defBody st) g) :
    FnOk P w K mg base (L2.CX P w) (k + 1) f fd ps (spM K ps.length (mDef N.length ps.length g)) := by
  refine F.okX S (fun vs H Q E h => spM_len h) (fun cdv A outer s H vs Q E hr h => ?_)
  obtain ⟨t, p, q⟩ := (hb cdv A outer s H E hr).ex
  exact ⟨t, p, post_def q h⟩
/-- a def of the text that may raise, as a caller has it -/
structure CalX (P : Program) (w : World) (K : PySem.W.Frag) (mg : Str → Option Value) (base : Heap) (k : Nat) (x : Str) (ps : List Str) (m : List D → Sto → MM D) : Prop where
  ex : ∃ (f : Addr) (fd : FuncData), FnOk P w K mg base (L2.CX P w) k f fd ps (spM K ps.length m) ∧ mg x = some (.ref f) ∧ PySem.W.keepIn K (.ref f) = true ∧ Binds K fd ps []
end
theorem me_calX {X : Cx} {E : XK} {k : Nat} {x : Str} {ps : List Str} {m c : List D → Sto → MM D} {e : Expr} {es : List Expr} {fs : FA} {p pos : Pos} (C : CalX X.prog X.w X.K X.mg X.base k x ps m) (tk : Takes X fun c d _ H => E c d H) (hc : CallF X.K E ps.length m c) (hr : Room k X.A) (ha : MA X E (e :: es) fs) (hg : Gl X x := by rfl) (hdb : (x == ("__debug__" : Str)) = false := by decide)
    (he : starEach (e :: es) X.env = (false, eval e X.env) :: starEach es X.env := by rfl) (hpl : (backTo pos (starEach es X.env)).any (·.1) = false := by rfl) : ME X E (.Call (.Name x p) (e :: es) [] pos) (mCall c fs) := by
  obtain ⟨f, fd, F, h1, h2, h3⟩ := C.ex
  exact me_call F hc hr h1 h2 h3 (fun pins σ H s e s' I h => passes_call tk (fun _ _ _ _ h => h) pins σ H s e s' I h) ha hg hdb he hpl
/-! ### try .. except -/
/-- the reading of a body that its function says -/
def tSg (K : PySem.W.Frag) (E : XK) (g : FS) : TS := fun D σ H => ∃ sl w, w.H = H ∧ Ok K w ∧ Slots K w sl σ ∧ PostS K E w (g sl w.st) D
theorem pss_sg {X : Cx} {E : XK} {b : List Stmt} {g : FS} (h : MSs X E b g) : PSs X b (tSg X.K E g) := by
  obtain ⟨t, p, q⟩ := h.ex
  exact ⟨fun pins s σ H D I ⟨sl, w, e, o, sl', hp⟩ => p.run pins s σ H D I (by rw [← e]; exact q sl σ w D o sl' hp)⟩
/-- what an except suite says of the error that it holds: an expression -/
abbrev FX := Exn → Option D
def xC (d : D) : FX := fun _ => some d
def xFld (ok : Addr → Bool) (f : Str) : FX := fun x => if ok x.C = true then x.fs.lookup f else none
def xNil : Exn → Option (List D) := fun _ => some []
def xCons (v : FX) (va : Exn → Option (List D)) : Exn → Option (List D) := fun x => (v x).bind fun d => (va x).map fun ds => d :: ds
def xTup (va : Exn → Option (List D)) : FX := fun x => (va x).bind fun ds => if ds.length ≤ 1000 then some (.tup ds) else none
def xIsi (isi : Addr → Option Bool) : Exn → Option Bool := fun x => isi x.C
def xAnd (va vb : Exn → Option Bool) : Exn → Option Bool := fun x => (va x).bind fun p => cond p (vb x) (some false)
def xIf (vt : Exn → Option Bool) (v1 v2 : FX) : FX := fun x => (vt x).bind fun b => cond b (v1 x) (v2 x)
structure MX (X : Cx) (i : Nat) (e : Expr) (v : FX) : Prop where
  ex : ∀ (E : XK) (a : Addr) (oe : Obj) (cls : Value) (d : Option Addr) (pn : List (Addr × Obj)), Zc cls d oe → (∃ vs, oe.data = .fields vs) → ∃ t : TE, PE (X.suite a ((a, oe) :: pn)) e t ∧
    ∀ (x : Exn) sl σ w (Q : VK), cls = .ref x.C → Ok X.K w → Slots X.K w sl σ → σ[i]? = some (some (.ref a)) → RepX X.K w x d → Post X.K E (rD X.K) w (lift (v x) w.st) Q → t σ w.H Q
structure MXT (X : Cx) (i : Nat) (e : Expr) (v : Exn → Option Bool) : Prop where
  ex : ∀ (E : XK) (a : Addr) (oe : Obj) (cls : Value) (d : Option Addr) (pn : List (Addr × Obj)), Zc cls d oe → (∃ vs, oe.data = .fields vs) → ∃ t : TT, PT (X.suite a ((a, oe) :: pn)) e t ∧
    ∀ (x : Exn) sl σ w (Q : Bool → Hp → Prop), cls = .ref x.C → Ok X.K w → Slots X.K w sl σ → σ[i]? = some (some (.ref a)) → RepX X.K w x d → Post X.K E rB w (lift (v x) w.st) Q → t σ w.H Q
structure MXA (X : Cx) (i : Nat) (es : List Expr) (v : Exn → Option (List D)) : Prop where
  ex : ∀ (E : XK) (a : Addr) (oe : Obj) (cls : Value) (d : Option Addr) (pn : List (Addr × Obj)), Zc cls d oe → (∃ vs, oe.data = .fields vs) → ∃ t : TA, PA (X.suite a ((a, oe) :: pn)) es t ∧
    ∀ (x : Exn) sl σ w (Q : List V → Hp → Prop), cls = .ref x.C → Ok X.K w → Slots X.K w sl σ → σ[i]? = some (some (.ref a)) → RepX X.K w x d → Post X.K E (rA X.K) w (lift (v x) w.st) Q → t σ w.H Q
/-- a suite that hands something back on every way -/
structure MXS (X : Cx) (i : Nat) (b : List Stmt) (v : FX) : Prop where
  ex : ∀ (E : XK) (a : Addr) (oe : Obj) (cls : Value) (d : Option Addr) (pn : List (Addr × Obj)), Zc cls d oe → (∃ vs, oe.data = .fields vs) → ∃ t : TS, PSs (X.suite a ((a, oe) :: pn)) b t ∧
    ∀ (x : Exn) sl σ w (D : Ends), cls = .ref x.C → Ok X.K w → Slots X.K w sl σ → σ[i]? = some (some (.ref a)) → RepX X.K w x d → Post X.K E (rD X.K) w (lift (v x) w.st) (fun v H => D.rt v H) → t D σ w.H
section
variable {X : Cx} {i : Nat} {e : Expr} {es : List Expr} {v : FX} {va : Exn → Option (List D)} {vt : Exn → Option Bool} {pos p p1 p2 : Pos}
theorem mx_c {d : D} {v0 : V} (h : ∀ X : Cx, PE X e (tC v0)) (hr : ∀ F α K, Rep K F α v0 d) : MX X i e (xC d) := ⟨fun E a oe cls dd pn hz hf => ⟨_, h _, fun x sl σ w Q hc o s hi hx hp => post_ret o (hr _ _ _) hp⟩⟩
theorem mx_str {x : Str} {j} : MX X i (.Constant (.str x) j pos) (xC (.str x)) := mx_c (fun _ => pe_str) fun _ _ _ => .str x
theorem mx_int {x : Int} {j} : MX X i (.Constant (.int x) j pos) (xC (.int x)) := mx_c (fun _ => pe_int) fun _ _ _ => .int x
theorem mx_bl {x : Bool} {j} : MX X i (.Constant (.bool x) j pos) (xC (.bl x)) := mx_c (fun _ => pe_bl) fun _ _ _ => .bl x
theorem mx_non {j} : MX X i (.Constant .none j pos) (xC .non) := mx_c (fun _ => pe_non) fun _ _ _ => .non
theorem look_fs {K : PySem.W.Frag} {F : Hp} {α : List Addr} {f : Str} {d : D} : ∀ {vs : List (Str × V)} {fs : List (Str × D)}, vs.map (·.1) = fs.map (·.1) → Reps K F α (vs.map (·.2)) (fs.map (·.2)) → fs.lookup f = some d → ∃ v, vs.lookup f = some v ∧ Rep K F α v d
  | [], [], _, _, h => by cases h
  | [], _ :: _, e, _, _ => by cases e
  | _ :: _, [], e, _, _ => by cases e
  | (k1, v1) :: r, (k2, d2) :: q, e, rs, h => by
    injection e with e1 e2
    have e1 : k1 = k2 := e1
    subst e1
    cases rs with
    | cons r1 r2 =>
      cases z : f == k1 with
      | true =>
        have h : (match f == k1 with
          | true => some d2
          | false => q.lookup f) = some d := h
        rw [z] at h
        cases h
        refine ⟨v1, ?_, r1⟩
        show (match f == k1 with
          | true => some v1
          | false => r.lookup f) = some v1
        rw [z]
      | false =>
        have h : (match f == k1 with
          | true => some d2
          | false => q.lookup f) = some d := h
        rw [z] at h
        obtain ⟨v, h1, h2⟩ := look_fs e2 r2 h
        refine ⟨v, ?_, h2⟩
        show (match f == k1 with
          | true => some v1
          | false => r.lookup f) = some v
        rw [z]; exact h1
/-- e.f -/
theorem mx_fld {n f : Str} {ok : Addr → Bool} (hN : X.N[i]? = some n) (hv : Vis X.env.scope n) (hok : ∀ C, ok C = true → XfC X.K C ∧ PySem.W.findIn X.K (.ref C) f = some none) (hd : (n == ("__debug__" : Str)) = false := by decide) (hcd : (n == ("__classdict__" : Str)) = false := by decide)
    (hb : attributeBase (.Name n p) f X.env (eval (.Name n p) X.env) = eval (.Name n p) X.env := by rfl) : MX X i (.Attribute (.Name n p) f pos) (xFld ok f) := ⟨fun E a oe cls dd pn hz hf => by
  by_cases hcl : ∃ C, cls = .ref C ∧ ok C = true
  · obtain ⟨C, rfl, hC⟩ := hcl
    obtain ⟨T, hno⟩ := hok C hC
    refine ⟨_, pe_xf T hno hz hf (pe_var (X := X.suite a ((a, oe) :: pn)) hN hv hd hcd) hb, fun x sl σ w Q hc o s hi hx hp => ?_⟩
    have hxC : x.C = C := by injection hc with hc; exact hc.symm
    have hp : Post X.K E (rD X.K) w (lift (if ok x.C = true then x.fs.lookup f else none) w.st) Q := hp
    rw [hxC, if_pos hC] at hp
    cases q : x.fs.lookup f with
    | none => rw [q] at hp; exact hp.elim
    | some d =>
      rw [q] at hp
      refine ⟨.ref a, hi, rfl, rfl, ?_⟩
      cases dd with
      | none => rw [show x.fs = [] from hx] at q; cases q
      | some dd =>
        obtain ⟨vs, h1, h2, h3, h4⟩ := hx
        obtain ⟨v, e1, e2⟩ := look_fs h3 h4 q
        exact ⟨dd, vs, v, rfl, h1, e1, post_ret o e2 hp⟩
  · refine ⟨fun _ _ _ => False, ⟨fun _ _ _ _ _ _ z => z.elim⟩, fun x sl σ w Q hc o s hi hx hp => ?_⟩
    have : ¬ ok x.C = true := fun z => hcl ⟨x.C, hc, z⟩
    have hp : Post X.K E (rD X.K) w (lift (if ok x.C = true then x.fs.lookup f else none) w.st) Q := hp
    rw [if_neg this] at hp
    exact hp⟩
theorem mxa_nil : MXA X i [] xNil := ⟨fun E a oe cls dd pn hz hf => ⟨_, pa_nil, fun x sl σ w Q hc o s hi hx hp => post_ret o .nil hp⟩⟩
theorem mxa_cons (he : MX X i e v) (hr : MXA X i es va) (hs : starEach (e :: es) X.env = (false, eval e X.env) :: starEach es X.env := by rfl) : MXA X i (e :: es) (xCons v va) := ⟨fun E a oe cls dd pn hz hf => by
  obtain ⟨t, p, q⟩ := he.ex E a oe cls dd pn hz hf
  obtain ⟨t', p', q'⟩ := hr.ex E a oe cls dd pn hz hf
  refine ⟨_, pa_cons p p' hs, fun x sl σ w Q hc o s hi hx hp => ?_⟩
  unfold xCons at hp
  cases h1 : v x with
  | none => rw [h1] at hp; exact hp.elim
  | some d =>
    cases h2 : va x with
    | none => rw [h1, h2] at hp; exact hp.elim
    | some ds =>
      rw [h1, h2] at hp
      refine q x sl σ w _ hc o s hi hx ?_
      rw [h1]
      intro u w1 e1 o1 s1 r1
      refine q' x sl σ w1 _ hc o1 (s.step s1) hi (repx_step o s1 hx) ?_
      rw [h2]
      intro us w2 e2 o2 s2 r2
      exact hp (u :: us) w2 (e2.trans e1) o2 (s1.trans s2) (.cons (r1.mono s2.le s2.pre) r2)⟩
theorem mx_tup {x1} (h : MXA X i es va) : MX X i (.Tuple es x1 pos) (xTup va) := ⟨fun E a oe cls dd pn hz hf => by
  obtain ⟨t, p, q⟩ := h.ex E a oe cls dd pn hz hf
  refine ⟨_, pe_tup p, fun x sl σ w Q hc o s hi hx hp => ?_⟩
  unfold xTup at hp
  cases h1 : va x with
  | none => rw [h1] at hp; exact hp.elim
  | some ds =>
    rw [h1] at hp
    refine q x sl σ w _ hc o s hi hx ?_
    rw [h1]
    intro us w1 e1 o1 s1 r1
    have hp : Post X.K E (rD X.K) w (lift (if ds.length ≤ 1000 then some (.tup ds) else none) w.st) Q := hp
    by_cases z : ds.length ≤ 1000
    · rw [if_pos z] at hp
      exact ⟨by rw [r1.length]; exact Nat.le_trans z five, fun pp np => post_mkT (E := E) o1 (Post.step s1 (by rw [e1]; exact hp)) np r1⟩
    · rw [if_neg z] at hp
      exact hp.elim⟩
/-- isinstance(e, c) -/
def rIsX (K : PySem.W.Frag) (C a : Addr) (d : Option Addr) : List V → Hp → VK → Prop := fun xs H Q => ∃ (c : V) (cv : Value) (b : Bool), xs = [.ref a, c] ∧ (∀ u, RelV c u → u = cv) ∧ PySem.W.kitOne K (.ref C) cv = some b ∧ (d = none ∨ ∃ dd vs, d = some dd ∧ H dd = some (.xd vs)) ∧ Q (.bl b) H
theorem call_isX {a C : Addr} {d : Option Addr} {oe : Obj} {pn : List (Addr × Obj)} (T : ExcC X.K C) (hz : Zc (.ref C) d oe) (hf : ∃ vs, oe.data = .fields vs) : CallR (X.suite a ((a, oe) :: pn)) (.builtin "isinstance") (rIsX X.K C a d) := by
  intro pins s σ H xs us Q I r h
  obtain ⟨c, cv, b, rfl, hcv, e, hd, q⟩ := h
  cases r with
  | cons rx rr =>
    cases rr with
    | cons rt rr =>
      cases rr
      cases rx
      have ec := hcv _ rt
      subst ec
      obtain ⟨hget, _⟩ := I.pin (a, oe) (List.mem_append.mpr (.inl List.mem_cons_self))
      obtain ⟨vs, hv⟩ := hf
      have J : ∃ od, PySem.W.InstAt s.heap a oe C od := by
        rcases hd with rfl | ⟨dd, fs, rfl, hdd⟩
        · obtain ⟨oc, od, oda, osl⟩ := oe
          obtain ⟨h1, h2⟩ := hz
          dsimp only at h1 h2 hv
          subst h1 h2 hv
          exact ⟨none, hget, rfl, rfl, trivial⟩
        · have hx : ObjOk X.prog X.w H s.heap dd (.xd fs) := I.hok dd _ hdd
          obtain ⟨mA, hns, hr⟩ := hx
          obtain ⟨od, ho, hl⟩ := lookIn_ns hns
          exact ⟨some od, hget, hz.1, by unfold PySem.W.notCls; rw [hv] <;> rfl, by rw [hz.2]; exact ho⟩
      obtain ⟨od, J⟩ := J
      have hcl : (PySem.W.clsIn X.K C).isSome = true := by
        obtain ⟨cd, hc, _⟩ := PySem.W.any_some T.hd
        rw [hc]; rfl
      exact PySem.W.kia_one (PySem.W.kitx_exc (od := od) hcl T.hg T.hk T.hs T.ha T.hn T.ht T.hm) I.kIn J e (fun z => nomatch z) fun tk => ⟨.bl b, H, I.kept (t' := tk) fun _ _ z => z, rfl, q⟩
theorem mxt_isi {n c : Str} {isi : Addr → Option Bool} {cv0 : V} {u : Value} (hN : X.N[i]? = some n) (hv : Vis X.env.scope n) (hisi : ∀ C b, isi C = some b → PySem.W.kitOne X.K (.ref C) u = some b ∧ ExcC X.K C) (hm : X.mg "isinstance" = none) (hg : Gl X "isinstance")
    (hcv : ∀ (a : Addr) (pn : List (Addr × Obj)), PE (X.suite a pn) (.Name c p2) (tC cv0)) (hu : ∀ w, RelV cv0 w → w = u) (hd : (n == ("__debug__" : Str)) = false := by decide) (hcd : (n == ("__classdict__" : Str)) = false := by decide)
    (he : starEach [.Name n p1, .Name c p2] X.env = (false, eval (.Name n p1) X.env) :: starEach [.Name c p2] X.env := by rfl) (he2 : starEach [.Name c p2] X.env = (false, eval (.Name c p2) X.env) :: starEach [] X.env := by rfl) (hpl : (backTo pos (starEach [.Name c p2] X.env)).any (·.1) = false := by rfl)
    (ht : ∀ whole, isTrue (.Call (.Name "isinstance" p) [.Name n p1, .Name c p2] [] pos) X.env whole = (do let v ← whole; standAt (Expr.pos (.Call (.Name "isinstance" p) [.Name n p1, .Name c p2] [] pos)); holding [v] (truthy v)) := by intro _; rfl) :
    MXT X i (.Call (.Name "isinstance" p) [.Name n p1, .Name c p2] [] pos) (xIsi isi) := ⟨fun E a oe cls dd pn hz hf => by
  by_cases hcl : ∃ C b, cls = .ref C ∧ isi C = some b
  · obtain ⟨C, b, rfl, hC⟩ := hcl
    obtain ⟨hk, T⟩ := hisi C b hC
    have P : PE (X.suite a ((a, oe) :: pn)) (.Call (.Name "isinstance" p) [.Name n p1, .Name c p2] [] pos) _ := pe_callB (call_isX T hz hf) hg hm (by decide +kernel) (pa_cons (pe_var (X := X.suite a ((a, oe) :: pn)) hN hv hd hcd) (pa_cons (hcv a ((a, oe) :: pn)) pa_nil he2) he) (by decide) (by decide) he hpl
    refine ⟨_, pt_truth P ht, fun x sl σ w Q hc o s hi hx hp => ?_⟩
    have hxC : x.C = C := by injection hc with hc; exact hc.symm
    have hp : Post X.K E rB w (lift (isi x.C) w.st) Q := hp
    rw [hxC, hC] at hp
    refine ⟨.ref a, hi, cv0, u, b, rfl, hu, hk, ?_, b, truD_ok (d := .bl b) o (.bl b) rfl, post_ret (rp := rB) o rfl hp⟩
    cases dd with
    | none => exact .inl rfl
    | some dd =>
      obtain ⟨vs, h1, _⟩ := hx
      exact .inr ⟨dd, vs, rfl, h1⟩
  · refine ⟨fun _ _ _ => False, ⟨fun _ _ _ _ _ _ z => z.elim⟩, fun x sl σ w Q hc o s hi hx hp => ?_⟩
    have hp : Post X.K E rB w (lift (isi x.C) w.st) Q := hp
    cases q : isi x.C with
    | none => rw [q] at hp; exact hp
    | some b => exact (hcl ⟨x.C, b, hc, q⟩).elim⟩
theorem mxs_ret {pr : Pos} (he : MX X i e v) : MXS X i [.Return (some e) pr] v := ⟨fun E a oe cls dd pn hz hf => by
  obtain ⟨t, p, q⟩ := he.ex E a oe cls dd pn hz hf
  exact ⟨_, pss_one (ps_ret p), fun x sl σ w D hc o s hi hx hp => q x sl σ w _ hc o s hi hx hp⟩⟩
theorem mxs_if {pr : Pos} {s1 rest : List Stmt} {v1 v2 : FX} {c : Expr} (hc : MXT X i c vt) (h1 : MXS X i s1 v1) (h2 : MXS X i rest v2) : MXS X i (.If c s1 [] pr :: rest) (xIf vt v1 v2) := ⟨fun E a oe cls dd pn hz hf => by
  obtain ⟨t, p, q⟩ := hc.ex E a oe cls dd pn hz hf
  obtain ⟨t1, p1, q1⟩ := h1.ex E a oe cls dd pn hz hf
  obtain ⟨t2, p2, q2⟩ := h2.ex E a oe cls dd pn hz hf
  refine ⟨_, pss_cons (ps_if p p1 pss_nil) p2, fun x sl σ w D hcc o s hi hx hp => ?_⟩
  unfold xIf at hp
  cases hb : vt x with
  | none => rw [hb] at hp; exact hp.elim
  | some b =>
    rw [hb] at hp
    refine q x sl σ w _ hcc o s hi hx ?_
    rw [hb]
    intro k w1 e1 o1 s1 r1
    obtain rfl : k = b := r1
    cases k with
    | true => exact q1 x sl σ w1 _ hcc o1 (s.step s1) hi (repx_step o s1 hx) (Post.step s1 (by rw [e1]; exact hp))
    | false => exact q2 x sl σ w1 _ hcc o1 (s.step s1) hi (repx_step o s1 hx) (Post.step s1 (by rw [e1]; exact hp))⟩
theorem mxt_and {a b : Expr} {va vb : Exn → Option Bool} (ha : MXT X i a va) (hb : MXT X i b vb) : MXT X i (.BoolOp .And [a, b] pos) (xAnd va vb) := ⟨fun E ad oe cls dd pn hz hf => by
  obtain ⟨t, p, q⟩ := ha.ex E ad oe cls dd pn hz hf
  obtain ⟨u, p', q'⟩ := hb.ex E ad oe cls dd pn hz hf
  refine ⟨_, (pw_and p (pw_and1 p')).pt, fun x sl σ w Q hc o s hi hx hp => ?_⟩
  unfold xAnd at hp
  cases h1 : va x with
  | none => rw [h1] at hp; exact hp.elim
  | some k =>
    rw [h1] at hp
    refine q x sl σ w _ hc o s hi hx ?_
    rw [h1]
    intro k' w1 e1 o1 s1 r1
    obtain rfl : k' = k := r1
    cases k' with
    | true => exact (if_pos rfl).mpr (q' x sl σ w1 _ hc o1 (s.step s1) hi (repx_step o s1 hx) (Post.step s1 (by rw [e1]; exact hp)))
    | false => exact (if_neg Bool.false_ne_true).mpr (hp false w1 e1 o1 s1 rfl)⟩
end
/-! the statement -/
def sTry (exm : Addr → Bool) (g : FS) (h : FX) : FS := fun sl st => match g sl st with
  | some (.exc e st) => if exm e.C = true then lift ((h e).map .rt) st else none
  | r => r
/-- what the body's errors are wished to be -/
def wishOf (n : Nat) (W : WX) : XK := fun c d H => ∀ σ : St, σ.length = n → W c d σ H
theorem takes_wish {X : Cx} {W : WX} (tk : Takes X W) : Takes X fun c d _ H => wishOf X.N.length W c d H := fun u s' ⟨a, B, sI, pins, σ, H, cls, d, e, I, nb, up, sky, na, os, ag, w⟩ => tk u s' ⟨a, B, sI, pins, σ, H, cls, d, e, I, nb, up, sky, na, os, ag, w σ I.len⟩
theorem ms_try {X : Cx} {E : XK} {x n : Str} {c : Value} {i : Nat} {body suite : List Stmt} {b₀ : Stmt} {np pos pos' : Pos} {exm : Addr → Bool} {g : FS} {h : FX} (hs : X.stack = X.env :: X.outer) (hf : X.env.frame = some X.env.locals) (hN : X.N.Nodup) (hi : X.N[i]? = some n) (hln : X.env.kindOf n = some .local) (hc : Names X x c)
    (hexm : ∀ C, exm C = true → PySem.W.exmOne X.K (.ref C) c = some true)
    (hb : ∀ (E' : XK) (pn : List (Addr × Obj)) (xe : Value → Shared → Prop), Takes (X.tr pn xe) (fun c d _ H => E' c d H) → MSs (X.tr pn xe) E' body g) (hsu : MXS X i (b₀ :: suite) h) :
    MS X E (.Try body [.ExceptHandler (some (.Name x np)) (some n) (b₀ :: suite) pos'] [] [] pos) (sTry exm g h) := by
  have hil : i < X.N.length := (List.getElem?_eq_some_iff.mp hi).1
  refine ⟨_, ps_try_as (tb := fun W => tSg X.K (wishOf X.N.length W) g) (ts := fun a cls d => fun D σ H => ∃ (x : Exn) (sl : Sl) (w : Ws), w.H = H ∧ cls = .ref x.C ∧ Ok X.K w ∧ Slots X.K w sl σ ∧ σ[i]? = some (some (.ref a)) ∧ RepX X.K w x d ∧ Post X.K E (rD X.K) w (lift (h x) w.st) (fun v H => D.rt v H)) hs hf hN hi hln hc takes0
    (fun W pn xe tk pass => ?_) (fun a oe cls d pn hz hff => ?_), fun sl σ w D o s hp => ?_⟩
  · exact pss_sg (X := X.tr pn xe) (hb _ pn xe (takes_wish (X := X.tr pn xe) tk))
  · obtain ⟨t, p, q⟩ := hsu.ex E a oe cls d pn hz hff
    exact ⟨fun pins s σ H D I ⟨x, sl, w, e, hcl, o, ss, hsi, hx, hp⟩ => p.run pins s σ H D I (by rw [← e]; exact q x sl σ w D hcl o ss hsi hx hp)⟩
  · refine ⟨sl, w, rfl, o, s, ?_⟩
    have hp : PostS X.K E w (match g sl w.st with
      | some (.exc e st) => if exm e.C = true then lift ((h e).map .rt) st else none
      | r => r) D := hp
    match q : g sl w.st, hp with
    | none, hp => exact hp
    | some (.ok f st), hp => exact hp
    | some (.exc e st), hp =>
      intro d w' est o' s' rx σ' hl
      obtain ⟨hx, hp⟩ := postS_ite (p := exm e.C = true) hp
      refine ⟨true, hexm _ hx, fun _ a na => ?_, fun z => by cases z⟩
      refine ⟨e, List.replicate σ'.length none, w', rfl, rfl, o', ⟨by rw [List.length_set, List.length_replicate], fun j z ez => ?_⟩, ?_, rx, ?_⟩
      · rw [List.getElem?_replicate] at ez
        split at ez <;> cases ez
      · exact List.getElem?_set_self (by rw [hl]; exact hil)
      · cases qh : h e with
        | none => rw [qh] at hp; exact hp.elim
        | some r =>
          rw [qh] at hp
          intro v w2 e2 o2 s2 r2
          exact hp w2 (e2.trans est) o2 (s'.trans s2) v r2
/-! ### the classes of a law, by name -/
structure Cs where
  C : Str → Addr
  exm : Str → Addr → Bool
  isi : Str → Addr → Option Bool
  fld : Str → Addr → Bool
section
variable {P : Program} {w : World} {K : PySem.W.Frag} {mg : Str → Option Value} {base : Heap} {cs : Cs}
structure RaiseOk1 (P : Program) (w : World) (K : PySem.W.Frag) (mg : Str → Option Value) (base : Heap) (cs : Cs) (n fld : Str) (g : Sl → Option D) : Prop where
  ex : ∃ (D fI : Addr) (fd : FuncData) (slf xn : Str), SupC K D (cs.C n) ∧ PySem.W.findIn K (.ref (cs.C n)) fld = some none ∧ PySem.W.findIn K (.ref (cs.C n)) "__init__" = some (some (.ref fI)) ∧ PySem.W.typeIn K (.ref fI) = some (.type "function") ∧ FnOk P w K mg base (L2.CX P w) 1 fI fd [slf, xn] (spE1 K D fld g) ∧ Binds K fd [slf, xn] [] ∧ mg n = some (.ref (cs.C n))
structure RaiseOk2 (P : Program) (w : World) (K : PySem.W.Frag) (mg : Str → Option Value) (base : Heap) (cs : Cs) (n f1 f2 : Str) (g : Sl → Option D) : Prop where
  ex : ∃ (D fI : Addr) (fd : FuncData) (slf x1n x2n : Str), SupC K D (cs.C n) ∧ PySem.W.findIn K (.ref (cs.C n)) f1 = some none ∧ PySem.W.findIn K (.ref (cs.C n)) f2 = some none ∧ PySem.W.findIn K (.ref (cs.C n)) "__init__" = some (some (.ref fI)) ∧ PySem.W.typeIn K (.ref fI) = some (.type "function") ∧ FnOk P w K mg base (L2.CX P w) 1 fI fd [slf, x1n, x2n] (spE2 K D f1 f2 g) ∧ Binds K fd [slf, x1n, x2n] [] ∧ mg n = some (.ref (cs.C n))
/-- an except clause's class -/
structure ExmOk (K : PySem.W.Frag) (mg : Str → Option Value) (cs : Cs) (n : Str) : Prop where
  at_ : mg n = some (.ref (cs.C n))
  ok : ∀ C, cs.exm n C = true → PySem.W.exmOne K (.ref C) (.ref (cs.C n)) = some true
structure IsiOk (K : PySem.W.Frag) (mg : Str → Option Value) (cs : Cs) (n : Str) : Prop where
  at_ : mg n = some (.ref (cs.C n))
  ok : ∀ C b, cs.isi n C = some b → PySem.W.kitOne K (.ref C) (.ref (cs.C n)) = some b ∧ ExcC K C
structure IsiOkB (K : PySem.W.Frag) (mg : Str → Option Value) (cs : Cs) (n : Str) (T : String) : Prop where
  at_ : mg n = none
  ok : ∀ C b, cs.isi n C = some b → PySem.W.kitOne K (.ref C) (.type T) = some b ∧ ExcC K C
structure FldOk (K : PySem.W.Frag) (cs : Cs) (f : Str) : Prop where
  ok : ∀ C, cs.fld f C = true → XfC K C ∧ PySem.W.findIn K (.ref C) f = some none
variable {X : Cx} {E : XK} {e e' : Expr} {p p1 p2 cpos pos : Pos} {fs : FA} {n f f1 f2 x c : Str} {g : Sl → Option D} {i : Nat}
theorem ms_raiseK1 (R : RaiseOk1 X.prog X.w X.K X.mg X.base cs n f g) (hc : X.calm = true) (tk : Takes X fun c d _ H => E c d H) (hr : Room 2 X.A) (ha : MA X E [e] fs) (hg : Gl X n := by rfl) (hdb : (n == ("__debug__" : Str)) = false := by decide) (he : starEach [e] X.env = (false, eval e X.env) :: starEach [] X.env := by rfl) (hpl : (backTo cpos (starEach [] X.env)).any (·.1) = false := by rfl) :
    MS X E (.Raise (some (.Call (.Name n p) [e] [] cpos)) none pos) (sRaise (cs.C n) [f] (fun ds => g (none :: (ds.map some ++ [none]))) fs) := by
  obtain ⟨D, fI, fd, slf, xn, h1, h2, h3, h4, h5, h6, h7⟩ := R.ex
  exact ms_raise1 hc tk h1 h2 h3 h4 h5 hr h6 passL h7 ha hg hdb he hpl
theorem ms_raiseK2 (R : RaiseOk2 X.prog X.w X.K X.mg X.base cs n f1 f2 g) (hc : X.calm = true) (tk : Takes X fun c d _ H => E c d H) (hr : Room 2 X.A) (ha : MA X E [e, e'] fs) (hg : Gl X n := by rfl) (hdb : (n == ("__debug__" : Str)) = false := by decide) (he : starEach [e, e'] X.env = (false, eval e X.env) :: starEach [e'] X.env := by rfl) (hpl : (backTo cpos (starEach [e'] X.env)).any (·.1) = false := by rfl) :
    MS X E (.Raise (some (.Call (.Name n p) [e, e'] [] cpos)) none pos) (sRaise (cs.C n) [f1, f2] (fun ds => g (none :: (ds.map some ++ [none]))) fs) := by
  obtain ⟨D, fI, fd, slf, x1n, x2n, h1, h2, h2', h3, h4, h5, h6, h7⟩ := R.ex
  exact ms_raise2 hc tk h1 h2 h2' h3 h4 h5 hr h6 passL h7 ha hg hdb he hpl
theorem ms_tryK {body suite : List Stmt} {b₀ : Stmt} {np pos' : Pos} {g : FS} {h : FX} (Mo : ExmOk X.K X.mg cs x) (hN : X.N.Nodup) (hb : ∀ (E' : XK) (pn : List (Addr × Obj)) (xe : Value → Shared → Prop), Takes (X.tr pn xe) (fun c d _ H => E' c d H) → MSs (X.tr pn xe) E' body g) (hsu : MXS X i (b₀ :: suite) h)
    (hs : X.stack = X.env :: X.outer := by rfl) (hf : X.env.frame = some X.env.locals := by rfl) (hi : X.N[i]? = some n := by rfl) (hln : X.env.kindOf n = some .local := by rfl) (hg : Gl X x := by rfl) (hdb : (x == ("__debug__" : Str)) = false := by decide) :
    MS X E (.Try body [.ExceptHandler (some (.Name x np)) (some n) (b₀ :: suite) pos'] [] [] pos) (sTry (cs.exm x) g h) := ms_try hs hf hN hi hln ⟨hg, hdb, .inl Mo.at_⟩ Mo.ok hb hsu
theorem mxt_isiK (Mo : IsiOk X.K X.mg cs c) (hm : X.mg "isinstance" = none) (hN : X.N[i]? = some n := by rfl) (hv : Vis X.env.scope n := by first | exact Or.inl rfl | exact Or.inr (Or.inl rfl) | exact Or.inr (Or.inr rfl)) (hg : Gl X "isinstance" := by rfl) (hgc : Gl X c := by rfl) (hdc : (c == ("__debug__" : Str)) = false := by decide) (hd : (n == ("__debug__" : Str)) = false := by decide) (hcd : (n == ("__classdict__" : Str)) = false := by decide)
    (he : starEach [.Name n p1, .Name c p2] X.env = (false, eval (.Name n p1) X.env) :: starEach [.Name c p2] X.env := by rfl) (he2 : starEach [.Name c p2] X.env = (false, eval (.Name c p2) X.env) :: starEach [] X.env := by rfl) (hpl : (backTo pos (starEach [.Name c p2] X.env)).any (·.1) = false := by rfl)
    (ht : ∀ whole, isTrue (.Call (.Name "isinstance" p) [.Name n p1, .Name c p2] [] pos) X.env whole = (do let v ← whole; standAt (Expr.pos (.Call (.Name "isinstance" p) [.Name n p1, .Name c p2] [] pos)); holding [v] (truthy v)) := by intro _; rfl) :
    MXT X i (.Call (.Name "isinstance" p) [.Name n p1, .Name c p2] [] pos) (xIsi (cs.isi c)) := mxt_isi (cv0 := .ref (cs.C c)) hN hv Mo.ok hm hg (fun a pn => pe_glob (X := X.suite a pn) hgc Mo.at_ rfl hdc) (fun w h => h) hd hcd he he2 hpl ht
theorem mxt_isiB {T : String} (Mo : IsiOkB X.K X.mg cs c T) (hm : X.mg "isinstance" = none) (hv0 : bootBuiltins c = some (.type T)) (hnn : c ≠ "__name__" := by decide) (hN : X.N[i]? = some n := by rfl) (hv : Vis X.env.scope n := by first | exact Or.inl rfl | exact Or.inr (Or.inl rfl) | exact Or.inr (Or.inr rfl)) (hg : Gl X "isinstance" := by rfl) (hgc : Gl X c := by rfl) (hdc : (c == ("__debug__" : Str)) = false := by decide) (hd : (n == ("__debug__" : Str)) = false := by decide) (hcd : (n == ("__classdict__" : Str)) = false := by decide)
    (he : starEach [.Name n p1, .Name c p2] X.env = (false, eval (.Name n p1) X.env) :: starEach [.Name c p2] X.env := by rfl) (he2 : starEach [.Name c p2] X.env = (false, eval (.Name c p2) X.env) :: starEach [] X.env := by rfl) (hpl : (backTo pos (starEach [.Name c p2] X.env)).any (·.1) = false := by rfl)
    (ht : ∀ whole, isTrue (.Call (.Name "isinstance" p) [.Name n p1, .Name c p2] [] pos) X.env whole = (do let v ← whole; standAt (Expr.pos (.Call (.Name "isinstance" p) [.Name n p1, .Name c p2] [] pos)); holding [v] (truthy v)) := by intro _; rfl) :
    MXT X i (.Call (.Name "isinstance" p) [.Name n p1, .Name c p2] [] pos) (xIsi (cs.isi c)) := mxt_isi (cv0 := .ty T) hN hv Mo.ok hm hg (fun a pn => pe_bltn (X := X.suite a pn) hgc Mo.at_ hv0 rfl hnn hdc) (fun w h => h) hd hcd he he2 hpl ht
theorem mx_fldK (Mo : FldOk X.K cs f) (hN : X.N[i]? = some n := by rfl) (hv : Vis X.env.scope n := by first | exact Or.inl rfl | exact Or.inr (Or.inl rfl) | exact Or.inr (Or.inr rfl)) (hd : (n == ("__debug__" : Str)) = false := by decide) (hcd : (n == ("__classdict__" : Str)) = false := by decide)
    (hb : attributeBase (.Name n p) f X.env (eval (.Name n p) X.env) = eval (.Name n p) X.env := by rfl) : MX X i (.Attribute (.Name n p) f pos) (xFld (cs.fld f) f) := mx_fld hN hv Mo.ok hd hcd hb
end
end M
namespace M
open PySem PySem.Spec PySem.W L2
/-! ### the classes as the written part says -/
def excB (K : Frag) (C : Addr) : Bool := decide (findIn K (.ref C) "__getattribute__" = some (some (.builtin "BaseException.__getattribute__"))) && (decide (findIn K (.ref C) "__getattr__" = some none) && (decide (subIn K (.ref C) (.type "BaseException") = some true) && (hasDictIn K C && (decide (findIn K (.ref C) "__class__" = some (some (.builtin "object.__class__"))) &&
  (decide (specialIn K (.builtin "object.__class__") "__get__" = some (some (.builtin "getset_descriptor.__get__"))) && (decide (takesIn K (.builtin "object.__class__") = some true) && decide (mroIn K C (.type "object") = some true)))))))
theorem excB_iff {K : Frag} {C : Addr} : excB K C = true ↔ ExcC K C := by
  unfold excB
  simp only [Bool.and_eq_true, decide_eq_true_eq]
  exact ⟨fun ⟨a, b, c, d, e, f, g, h⟩ => ⟨a, b, c, d, e, f, g, h⟩, fun ⟨a, b, c, d, e, f, g, h⟩ => ⟨a, b, c, d, e, f, g, h⟩⟩
theorem xfB_of {K : Frag} {C : Addr} (T : ExcC K C) : xfB K C = true := by
  unfold xfB
  simp only [Bool.and_eq_true, decide_eq_true_eq]
  exact ⟨T.hg, T.hk, T.hs, T.hd⟩
def csOf (K : Frag) (l : List (Str × Addr)) (vs : List (Str × Value)) : Cs where
  C n := (l.lookup n).getD 0
  exm n c := decide (exmOne K (.ref c) (.ref ((l.lookup n).getD 0)) = some true)
  isi n c := if excB K c = true then kitOne K (.ref c) ((vs.lookup n).getD .none) else none
  fld f c := xfB K c && decide (findIn K (.ref c) f = some none)
section
variable {K : Frag} {mg : Str → Option Value} {l : List (Str × Addr)} {vs : List (Str × Value)} {n f : Str} {C G : Addr}
theorem cs_exm (h : mg n = some (.ref ((l.lookup n).getD 0))) : ExmOk K mg (csOf K l vs) n := ⟨h, fun _ h => of_decide_eq_true h⟩
theorem cs_isi (h : mg n = some (.ref ((l.lookup n).getD 0))) (e : (vs.lookup n).getD .none = .ref ((l.lookup n).getD 0)) : IsiOk K mg (csOf K l vs) n := ⟨h, fun c b h => by
  have h : (if excB K c = true then kitOne K (.ref c) ((vs.lookup n).getD .none) else none) = some b := h
  split at h
  · rename_i q
    rw [e] at h
    exact ⟨h, excB_iff.mp q⟩
  · cases h⟩
theorem cs_isiB {T : String} (h : mg n = none) (e : (vs.lookup n).getD .none = .type T) : IsiOkB K mg (csOf K l vs) n T := ⟨h, fun c b h => by
  have h : (if excB K c = true then kitOne K (.ref c) ((vs.lookup n).getD .none) else none) = some b := h
  split at h
  · rename_i q
    rw [e] at h
    exact ⟨h, excB_iff.mp q⟩
  · cases h⟩
theorem cs_fld : FldOk K (csOf K l vs) f := ⟨fun c h => by
  have h : (xfB K c && decide (findIn K (.ref c) f = some none)) = true := h
  rw [Bool.and_eq_true] at h
  exact ⟨xfB_ok h.1, of_decide_eq_true h.2⟩⟩
theorem kn_exm (e : (l.lookup n).getD 0 = G) (h1 : subIn K (.ref G) (.type "BaseException") = some true) (h2 : hasDictIn K G = true) (h3 : typeIn K (.ref G) = some (.type "type")) (h4 : subIn K (.ref C) (.ref G) = some true) : (csOf K l vs).exm n C = true := by
  show decide _ = true
  rw [e]
  exact decide_eq_true (exm_ref h1 h2 h3 h4)
theorem kn_isi {v : Value} {b : Bool} (T : ExcC K C) (e : (vs.lookup n).getD .none = v) (h : kitOne K (.ref C) v = some b) : (csOf K l vs).isi n C = some b := by
  show (if excB K C = true then kitOne K (.ref C) ((vs.lookup n).getD .none) else none) = some b
  rw [if_pos (excB_iff.mpr T), e, h]
theorem kn_fld (T : ExcC K C) (h : findIn K (.ref C) f = some none) : (csOf K l vs).fld f C = true := by
  show (xfB K C && decide _) = true
  rw [xfB_of T, decide_eq_true h]; rfl
theorem kit_self : kitOne K (.ref C) (.ref C) = some true := by
  unfold kitOne
  rw [if_pos (by simp)]
theorem kit_bt {T : String} {b : Bool} (hm : kitMeta T = true) (h : subIn K (.ref C) (.type T) = some b) : kitOne K (.ref C) (.type T) = some b := by
  unfold kitOne
  rw [if_neg (by simp)]
  show (if kitMeta T = true then subIn K (.ref C) (.type T) else none) = some b
  rw [if_pos hm, h]
theorem kit_rc {c : Addr} {b : Bool} (ne : C ≠ c) (hd : hasDictIn K c = true) (ty : typeIn K (.ref c) = some (.type "type")) (h : subIn K (.ref C) (.ref c) = some b) : kitOne K (.ref C) (.ref c) = some b := by
  obtain ⟨cd, hc, _⟩ := any_some hd
  unfold kitOne
  rw [if_neg (by simpa using ne)]
  show (if ((clsIn K c).isSome && typeIn K (.ref c) == some (.type "type")) = true then subIn K (.ref C) (.ref c) else none) = some b
  rw [if_pos (by rw [hc, ty] <;> rfl), h]
end
end M

/-! Rules for texts, and in / not in. -/
namespace M
open PySem L2
section
variable {X : Cx} {E : XK} {K : PySem.W.Frag} {a b c e o : Expr} {es rest : List Expr} {fa fb fc : FE} {fs : FA} {ta tb tc : TE} {pos apos cpos : Pos} {T id : String} {name : Str}
/-! ### in, not in -/
def scDs : List D → Option (List V)
  | [] => some []
  | d :: r => match scD d, scDs r with
    | some v, some vs => some (v :: vs)
    | _, _ => none
theorem scDs_rep {F : Hp} {α : List Addr} : ∀ {vs : List V} {ds : List D} {ws : List V}, Reps K F α vs ds → scDs ds = some ws → vs = ws ∧ ws.all flatV = true
  | _, _, _, .nil, h => by cases h; exact ⟨rfl, rfl⟩
  | _, _, ws, .cons (d := d) (ds := ds) r rs, h => by
    have h : (match scD d, scDs ds with
      | some v, some vs => some (v :: vs)
      | _, _ => none) = some ws := h
    cases q : scD d with
    | none => rw [q] at h; cases h
    | some v =>
      cases q2 : scDs ds with
      | none => rw [q, q2] at h; cases h
      | some vs =>
        rw [q, q2] at h
        cases h
        obtain ⟨e1, e2⟩ := scDs_rep rs q2
        refine ⟨by rw [scD_rep r q, e1], ?_⟩
        rw [List.all_cons, e2, Bool.and_true]
        cases d <;> cases q <;> rfl
theorem scD_flat {d : D} {v : V} (h : scD d = some v) : flatV v = true := by
  cases d <;> cases h <;> rfl
def ng (n b : Bool) : Bool := if n then !b else b
def seqD (st : Sto) : D → Option (List D)
  | .tup ds => some ds
  | d => lstOf st d
theorem seqD_rep {w : Ws} (o : Ok K w) {v : V} {d : D} {ds : List D} (r : Rep K w.F w.al v d) (h : seqD w.st d = some ds) : ∃ p xs, v = .ref p ∧ (SqL K w.H p xs ∨ SqT K w.H p xs) ∧ Reps K w.F w.al xs ds := by
  have viaL : lstOf w.st d = some ds → ∃ p xs, v = .ref p ∧ (SqL K w.H p xs ∨ SqT K w.H p xs) ∧ Reps K w.F w.al xs ds := fun h => by
    obtain ⟨p, xs, e, hx, rs⟩ := lstOf_rep o r h
    exact ⟨p, xs, e, .inl hx, rs⟩
  cases d with
  | tup es =>
    cases h
    obtain ⟨p, xs, e, f, rs⟩ := r.tup_inv
    exact ⟨p, xs, e, .inr (SqT.of (o.sub _ _ f)), rs⟩
  | _ => exact viaL h
def gIn (n : Bool) (st : Sto) (x y : D) : MM D := match y with
  | .str z => match x with
    | .str c => match c.cps.toList with
      | [k] => ret (.bl (ng n (decide (k ∈ z.cps.toList)))) st
      | _ => ret (.bl (ng n (!(Builtin.Str.occurrences z c 0 z.length 1).isEmpty))) st
    | _ => none
  | y => match seqD st y, scD x with
    | some ds, some v => match scDs ds with
      | some vs => ret (.bl (ng n (inV v vs))) st
      | none => none
    | _, _ => none
abbrev rInA (K : PySem.W.Frag) (n : Bool) : R2 := fun x y H Q => (∃ (c : Nat) (z : Str), x = .str ⟨#[c]⟩ ∧ y = .str z ∧ Q (.bl (ng n (decide (c ∈ z.cps.toList)))) H) ∨ (∃ i j, x = .str i ∧ y = .str j ∧ Q (.bl (ng n (!(Builtin.Str.occurrences j i 0 j.length 1).isEmpty))) H) ∨ rIn K n x y H Q
theorem opr_in : OpR X (compareOp .In) (rInA X.K false) := op_in_sign.or (op_in_str.or op_in_seq)
theorem opr_notin : OpR X (compareOp .NotIn) (rInA X.K true) := op_notIn_sign.or (op_notin_str.or op_notIn_seq)
theorem rf_in (n : Bool) : Rf2 K E (rInA K n) (gIn n) := fun x y dx dy w Q o rx ry hp => by
  have viaS : (match seqD w.st dy, scD dx with
    | some ds, some v => match scDs ds with
      | some vs => ret (D.bl (ng n (inV v vs))) w.st
      | none => none
    | _, _ => none) = gIn n w.st dx dy → rInA K n x y w.H Q := fun e => by
    rw [← e] at hp
    cases h1 : seqD w.st dy with
    | none => simp only [h1] at hp; exact hp.elim
    | some ds =>
      cases h2 : scD dx with
      | none => simp only [h1, h2] at hp; exact hp.elim
      | some v =>
        cases h3 : scDs ds with
        | none => simp only [h1, h2, h3] at hp; exact hp.elim
        | some vs =>
          simp only [h1, h2, h3] at hp
          obtain ⟨p, xs, rfl, hx, rs⟩ := seqD_rep o ry h1
          obtain ⟨rfl, hf⟩ := scDs_rep rs h3
          have ex := scD_rep rx h2
          subst ex
          exact .inr (.inr ⟨p, xs, rfl, hx, scD_flat h2, hf, post_ret o (.bl _) hp⟩)
  cases dy with
  | str z =>
    cases dx with
    | str c =>
      have hp : Post K E (rD K) w (match c.cps.toList with
        | [k] => ret (D.bl (ng n (decide (k ∈ z.cps.toList)))) w.st
        | _ => ret (D.bl (ng n (!(Builtin.Str.occurrences z c 0 z.length 1).isEmpty))) w.st) Q := hp
      split at hp
      · rename_i k hk
        refine .inl ⟨k, z, ?_, ry.str_inv, post_ret o (.bl _) hp⟩
        rw [rx.str_inv]
        have : c = ⟨#[k]⟩ := by
          obtain ⟨cc⟩ := c
          have hk : cc.toList = [k] := hk
          have : cc = #[k] := by
            rw [← Array.toArray_toList (xs := cc), hk]
          rw [this]
        rw [this]
      · exact .inr (.inl ⟨c, z, rx.str_inv, ry.str_inv, post_ret o (.bl _) hp⟩)
    | _ => exact hp.elim
  | _ => exact viaS rfl
/-! ### x += text -/
def gAddS : Sto → D → D → MM D := fun st x y => match x, y with
  | .str i, .str j => if i.length + j.length ≤ sizeLine then ret (.str (i ++ j)) st else none
  | _, _ => none
abbrev tAddS : TIp := fun x y H Q => ∃ i j, x = .str i ∧ y = .str j ∧ i.length + j.length ≤ sizeLine ∧ Q (.str (i ++ j)) H
theorem ip_addS : PIp X .Add tAddS := iop_add_str
theorem rip_addS : RfIp K E tAddS gAddS := fun x y dx dy w Q o rx ry hp => by
  unfold gAddS at hp
  split at hp
  · obtain ⟨h1, hp⟩ := post_ite hp
    exact ⟨_, _, rx.str_inv, ry.str_inv, h1, post_ret o (.str _) hp⟩
  · exact hp.elim
/-! ### methods of texts -/
def strsOf : List D → Option (List Str)
  | [] => some []
  | d :: r => match d, strsOf r with
    | .str i, some is => some (i :: is)
    | _, _ => none
theorem strsOf_rep {F : Hp} {α : List Addr} : ∀ {vs : List V} {ds : List D} {is : List Str}, Reps K F α vs ds → strsOf ds = some is → vs = is.map V.str
  | _, _, _, .nil, h => by cases h; rfl
  | _, _, is, .cons (v := v) (d := d) (vs := vs) (ds := ds) r rs, h => by
    cases d with
    | str i =>
      have h' : (match strsOf ds with
        | some is => some (i :: is)
        | none => none) = some is := by
        have : strsOf (.str i :: ds) = (match D.str i, strsOf ds with
          | .str i, some is => some (i :: is)
          | _, _ => none) := rfl
        rw [this] at h
        cases q : strsOf ds with
        | none => rw [q] at h; cases h
        | some is2 => rw [q] at h; exact h
      cases q : strsOf ds with
      | none => rw [q] at h'; cases h'
      | some is2 =>
        rw [q] at h'; cases h'
        rw [r.str_inv, strsOf_rep rs q]; rfl
    | _ => cases h
def gJoin (st : Sto) (x : D) (as : List D) : MM D := match x, as with
  | .str s, [y] => match (seqD st y).bind strsOf with
    | some ys => if (ys.map (·.length)).sum + ys.length * s.length ≤ 16777216 then ret (.str (Txt.join s ys)) st else none
    | none => none
  | _, _ => none
theorem rf_join : RfM K E (fun x xs H Q => ∃ a p, ∃ ys : List Str, x = .str a ∧ xs = [.ref p] ∧ (SqL K H p (ys.map V.str) ∨ SqT K H p (ys.map V.str)) ∧ (ys.map (·.length)).sum + ys.length * a.length ≤ 16777216 ∧ Q (.str (Txt.join a ys)) H) gJoin := fun x dx xs ds w Q o rx rs hp => by
  unfold gJoin at hp
  split at hp
  · rename_i s y
    obtain ⟨v, rfl, rv⟩ := rs.one_inv
    cases q : seqD w.st y with
    | none => rw [q] at hp; exact hp.elim
    | some es =>
      cases q2 : strsOf es with
      | none => rw [q] at hp; simp only [Option.bind_some, q2] at hp; exact hp.elim
      | some ys =>
        rw [q] at hp; simp only [Option.bind_some, q2] at hp
        obtain ⟨hz, hp⟩ := post_ite hp
        obtain ⟨p, xs, rfl, hx, rs2⟩ := seqD_rep o rv q
        rw [strsOf_rep rs2 q2] at hx
        exact ⟨s, p, ys, rx.str_inv, rfl, hx, hz, post_ret o (.str _) hp⟩
  · exact hp.elim
theorem reps_strs {F : Hp} {α : List Addr} : ∀ ys : List Str, Reps K F α (ys.map V.str) (ys.map D.str)
  | [] => .nil
  | y :: r => .cons (.str y) (reps_strs r)
def gSplit (c : Bool) (st : Sto) (x : D) (as : List D) : MM D := match x, as with
  | .str a, [.str b] => if (b.length == 0) = false ∧ a.length + 2 ≤ sizeLine then mkL c ((Txt.split a b).map .str) st else none
  | _, _ => none
theorem rf_split (c : Bool) : RfM K E (fun x xs H Q => ∃ a b, x = .str a ∧ xs = [.str b] ∧ (b.length == 0) = false ∧ a.length + 2 ≤ sizeLine ∧ rNewStrs (Txt.split a b) H Q) (gSplit c) := fun x dx xs ds w Q o rx rs hp => by
  unfold gSplit at hp
  split at hp
  · rename_i s y
    obtain ⟨v, rfl, rv⟩ := rs.one_inv
    obtain ⟨⟨h1, h2⟩, hp⟩ := post_ite (p := (y.length == 0) = false ∧ s.length + 2 ≤ sizeLine) hp
    exact ⟨s, y, rx.str_inv, by rw [rv.str_inv], h1, h2, fun p np => post_mkL o hp np (reps_strs _)⟩
  · exact hp.elim
/-- a method of a text with one text, to a text -/
def gSS (C : Str → Str → Prop) [∀ a b, Decidable (C a b)] (f : Str → Str → Str) (st : Sto) (x : D) (as : List D) : MM D := match x, as with
  | .str a, [.str b] => if C a b then ret (.str (f a b)) st else none
  | _, _ => none
theorem rf_SS {C : Str → Str → Prop} [∀ a b, Decidable (C a b)] {f : Str → Str → Str} : RfM K E (fun x xs H Q => ∃ a b, x = .str a ∧ xs = [.str b] ∧ C a b ∧ Q (.str (f a b)) H) (gSS C f) := fun x dx xs ds w Q o rx rs hp => by
  unfold gSS at hp
  split at hp
  · rename_i s y
    obtain ⟨v, rfl, rv⟩ := rs.one_inv
    obtain ⟨h1, hp⟩ := post_ite (p := C s y) hp
    exact ⟨s, y, rx.str_inv, by rw [rv.str_inv], h1, post_ret o (.str _) hp⟩
  · exact hp.elim
def gLower (st : Sto) (x : D) (as : List D) : MM D := match x, as with
  | .str a, [] => if a.length ≤ 5592405 then ret (.str (Txt.lower a)) st else none
  | _, _ => none
theorem rf_lower : RfM K E (fun x xs H Q => ∃ a, x = .str a ∧ xs = [] ∧ a.length ≤ 5592405 ∧ Q (.str (Txt.lower a)) H) gLower := fun x dx xs ds w Q o rx rs hp => by
  unfold gLower at hp
  split at hp
  · obtain ⟨h1, hp⟩ := post_ite hp
    cases rs
    exact ⟨_, rx.str_inv, rfl, h1, post_ret o (.str _) hp⟩
  · exact hp.elim
/-! ### int(x) -/
def cIntS (st : Sto) (ds : List D) : MM D := match ds with
  | [.int i] => ret (.int i) st
  | [.str a] => match PySem.intText? a with
    | some n => if a.length ≤ 640 then ret (.int n) st else none
    | none => none
  | _ => none
theorem rf_intS : RfC K E (fun xs H Q => ((∃ i, xs = [.int i] ∧ Q (.int i) H) ∨ ∃ k, xs = [.bl k] ∧ Q (.int (if k then 1 else 0)) H) ∨ ∃ a n, xs = [.str a] ∧ PySem.intText? a = some n ∧ a.length ≤ 640 ∧ Q (.int n) H) cIntS := fun xs ds w Q o r hp => by
  unfold cIntS at hp
  split at hp
  · obtain ⟨x, rfl, rx⟩ := r.one_inv
    exact .inl (.inl ⟨_, by rw [rx.int_inv], post_ret o (.int _) hp⟩)
  · rename_i a
    obtain ⟨x, rfl, rx⟩ := r.one_inv
    cases q : PySem.intText? a with
    | none => rw [q] at hp; exact hp.elim
    | some n =>
      rw [q] at hp
      obtain ⟨h1, hp⟩ := post_ite hp
      exact .inr ⟨a, n, by rw [rx.str_inv], q, h1, post_ret o (.int _) hp⟩
  · exact hp.elim
theorem call_intS : CallR X (.type "int") (fun xs H Q => ((∃ i, xs = [.int i] ∧ Q (.int i) H) ∨ ∃ k, xs = [.bl k] ∧ Q (.int (if k then 1 else 0)) H) ∨ ∃ a n, xs = [.str a] ∧ PySem.intText? a = some n ∧ a.length ≤ 640 ∧ Q (.int n) H) := call_int1.or call_int_str
end
end M
namespace M
open PySem L2
/-! ### t[lo:hi] of a tuple, not the whole -/
def gSlT (st : Sto) (x : D) (lo hi : Option Int) : MM D := match x with
  | .tup ds => if ¬ (HT.sIx ds.length 0 lo = 0 ∧ HT.sIx ds.length ds.length hi = ds.length) then mkT (cutD ds lo hi) st else none
  | _ => none
def mSlT (f : FE) (l h : FO) : FE := fun sl st => bnd (f sl st) fun x st => bnd (l sl st) fun lo st => bnd (h sl st) fun hi st => gSlT st x lo hi
theorem me_slT {X : Cx} {E : XK} {a : Expr} {fa : FE} {pos : Pos} {lo hi : Option Expr} {fl fh : FO} {p2 : Pos} (ha : ME X E a fa) (hl : MO X E lo fl) (hh : MO X E hi fh) : ME X E (.Subscript a (.Slice lo hi none p2) pos) (mSlT fa fl fh) := by
  obtain ⟨ta, p, q⟩ := ha.ex
  obtain ⟨tl, p1, q1⟩ := hl.ex
  obtain ⟨th, p2, q2⟩ := hh.ex
  refine ⟨_, pe_slice sl_tup p p1 p2, fun sl σ w Q o s h => ?_⟩
  refine q sl σ w _ o s (post_bnd h fun x dx w1 o1 s1 rx h1 => ?_)
  refine q1 sl σ w1 _ o1 (s.step s1) (post_bnd h1 fun v lo w2 o2 s2 r1 h2 => ?_)
  have r1 : v = lo := r1
  subst r1
  refine q2 sl σ w2 _ o2 ((s.step s1).step s2) (post_bnd h2 fun u hi w3 o3 s3 r2 hp => ?_)
  have r2 : u = hi := r2
  subst r2
  have rx := (rx.mono s2.le s2.pre).mono s3.le s3.pre
  cases dx with
  | tup ds =>
    obtain ⟨a, xs, rfl, f, rs⟩ := rx.tup_inv
    obtain ⟨hc, hp⟩ := post_ite (p := ¬ (HT.sIx ds.length 0 v = 0 ∧ HT.sIx ds.length ds.length u = ds.length)) hp
    exact ⟨a, xs, rfl, SqT.of (o3.sub _ _ f), by rw [rs.length]; exact hc, fun p np => post_mkT o3 hp np (rs.cut v u)⟩
  | _ => exact hp.elim
end M

/-! Texts as lists of code points. -/
namespace M
open PySem PySem.Spec L2
def T (x : Str) : List Nat := x.cps.toList
def U (l : List Nat) : Str := ⟨l.toArray⟩
theorem T_U (l : List Nat) : T (U l) = l := by unfold T U; simp
theorem U_T (x : Str) : U (T x) = x := by
  obtain ⟨a⟩ := x
  unfold T U; simp
theorem T_inj {x y : Str} (h : T x = T y) : x = y := by rw [← U_T x, ← U_T y, h]
theorem T_len (x : Str) : (T x).length = x.length := by
  obtain ⟨a⟩ := x
  show a.toList.length = a.size
  simp
theorem T_app (x y : Str) : T (x ++ y) = T x ++ T y := by
  obtain ⟨a⟩ := x
  obtain ⟨b⟩ := y
  show (a ++ b).toList = a.toList ++ b.toList
  simp
theorem T_empty : T Str.empty = [] := rfl
theorem T_cut (z : Str) (lo hi : Option Int) : T (cutS z lo hi) = ((T z).drop (HT.sIx (T z).length 0 lo)).take (HT.sIx (T z).length (T z).length hi - HT.sIx (T z).length 0 lo) := by
  rw [T_len]
  unfold T cutS; simp
theorem chrD_T (x : Str) : chrD x = (T x).map fun c => .str (U [c]) := rfl
theorem T_one (c : Nat) : T (U [c]) = [c] := T_U _
/-! joined -/
def glue (c : List Nat) : List (List Nat) → List Nat
  | [] => []
  | [x] => x
  | x :: y :: r => x ++ c ++ glue c (y :: r)
theorem T_join (s : Str) : ∀ ys : List Str, T (Str.join s ys) = glue (T s) (ys.map T)
  | [] => by rw [Str.join]; rfl
  | [x] => by rw [Str.join]; rfl
  | x :: y :: r => by
    have ih := T_join s (y :: r)
    rw [Str.join, T_app, T_app, ih]
    · rfl
    · exact fun h => by cases h
theorem T_joinT (s : Str) (ys : List Str) : T (Txt.join s ys) = glue (T s) (ys.map T) := by
  have : Txt.join s ys = Str.join s ys := StrLaws.glued_eq_join s ys
  rw [this, T_join]
theorem glue_nil : ∀ xs : List (List Nat), glue [] xs = xs.flatten
  | [] => rfl
  | [x] => by simp [glue]
  | x :: y :: r => by
    rw [glue, glue_nil (y :: r)]; simp
/-! parted at one sign -/
def spl (c : Nat) : List Nat → List (List Nat)
  | [] => [[]]
  | x :: r => if x = c then [] :: spl c r else match spl c r with
    | [] => [[x]]
    | p :: ps => (x :: p) :: ps
theorem spl_ne (c : Nat) : ∀ l, spl c l ≠ []
  | [] => by simp [spl]
  | x :: r => by
    unfold spl
    by_cases h : x = c
    · rw [if_pos h]; exact List.cons_ne_nil _ _
    · rw [if_neg h]
      cases spl c r <;> exact List.cons_ne_nil _ _
theorem spl_app (c : Nat) : ∀ (p l : List Nat), c ∉ p → spl c (p ++ c :: l) = p :: spl c l
  | [], l, _ => by simp [spl]
  | x :: p, l, h => by
    have h1 : x ≠ c := fun e => h (by rw [e]; exact List.mem_cons_self)
    show (if x = c then _ else _) = _
    rw [if_neg h1, show spl c (p.append (c :: l)) = p :: spl c l from spl_app c p l fun m => h (List.mem_cons_of_mem _ m)]
theorem spl_free (c : Nat) : ∀ p : List Nat, c ∉ p → spl c p = [p]
  | [], _ => rfl
  | x :: p, h => by
    have h1 : x ≠ c := fun e => h (by rw [e]; exact List.mem_cons_self)
    show (if x = c then _ else _) = _
    rw [if_neg h1, spl_free c p fun m => h (List.mem_cons_of_mem _ m)]
theorem spl_glue (c : Nat) : ∀ ps : List (List Nat), ps ≠ [] → (∀ p ∈ ps, c ∉ p) → spl c (glue [c] ps) = ps
  | [], h, _ => absurd rfl h
  | [p], _, h => spl_free c p (h p List.mem_cons_self)
  | p :: q :: r, _, h => by
    show spl c (p ++ [c] ++ glue [c] (q :: r)) = _
    rw [List.append_assoc]
    show spl c (p ++ c :: glue [c] (q :: r)) = _
    rw [spl_app c p _ (h p List.mem_cons_self), spl_glue c (q :: r) (List.cons_ne_nil _ _) fun x m => h x (List.mem_cons_of_mem _ m)]
theorem T_split (x : Str) (c : Nat) : (Txt.split x (U [c])).map T = spl c (T x) := by
  have h1 : Str.join (U [c]) (Txt.split x (U [c])) = x := StrLaws.join_split x (U [c])
  have h2 : ∀ p ∈ (Txt.split x (U [c])).map T, c ∉ p := fun p m => by
    rw [List.mem_map] at m
    obtain ⟨y, m, rfl⟩ := m
    exact StrLaws.split_free x c y m
  have h3 : (Txt.split x (U [c])).map T ≠ [] := fun z => by
    have z2 : Txt.split x (U [c]) = [] := List.map_eq_nil_iff.mp z
    have := StrLaws.split_free x c
    unfold Txt.split at z2
    split at z2
    · cases z2
    · split at z2
      · cases z2
      · have := PySem.Builtin.Str.partsBetween x
        revert z2
        rw [StrLaws.partsBetween_eq]
        intro z2
        generalize Builtin.Str.occurrences x (U [c]) 0 x.length (x.length + 1) = cs at z2
        cases cs <;> cases z2
  have h4 : T x = glue [c] ((Txt.split x (U [c])).map T) := by
    have e := T_join (U [c]) (Txt.split x (U [c]))
    rw [h1, T_one] at e
    exact e
  rw [h4, spl_glue c _ h3 h2]
/-! two signs side by side -/
def adj (c : Nat) : List Nat → Bool
  | [] => false
  | [_] => false
  | x :: y :: r => (x == c && y == c) || adj c (y :: r)
theorem adj_iff (c : Nat) : ∀ l : List Nat, adj c l = true ↔ ∃ i, (l.drop i).take 2 = [c, c]
  | [] => by simp [adj]
  | [x] => by
    simp only [adj, Bool.false_eq_true, false_iff, not_exists]
    intro i h
    cases i with
    | zero => simp at h
    | succ i => simp at h
  | x :: y :: r => by
    rw [adj, Bool.or_eq_true, adj_iff c (y :: r)]
    constructor
    · rintro (h | ⟨i, h⟩)
      · rw [Bool.and_eq_true, beq_iff_eq, beq_iff_eq] at h
        exact ⟨0, by simp [h.1, h.2]⟩
      · exact ⟨i + 1, h⟩
    · rintro ⟨i, h⟩
      cases i with
      | zero =>
        left
        simp at h
        simp [h.1, h.2]
      | succ i => exact .inr ⟨i, h⟩
theorem found_two (x : Str) (c : Nat) : (!(Builtin.Str.occurrences x (U [c, c]) 0 x.length 1).isEmpty) = adj c (T x) := by
  have e : (!(Builtin.Str.occurrences x (U [c, c]) 0 x.length 1).isEmpty) = true ↔ adj c (T x) = true := by
    rw [StrLaws.found_iff, adj_iff]
    have key : ∀ i, Builtin.Str.subAt x (U [c, c]) i = true ↔ ((T x).drop i).take 2 = [c, c] := fun i => by
      rw [StrLaws.subAt_eq]
      show (((T x).drop i).take 2 == T (U [c, c])) = true ↔ _
      rw [T_U, beq_iff_eq]
    constructor
    · rintro ⟨i, _, h⟩; exact ⟨i, (key i).mp h⟩
    · rintro ⟨i, h⟩
      refine ⟨i, ?_, (key i).mpr h⟩
      have := congrArg List.length h
      rw [List.length_take, List.length_drop, T_len] at this
      show i + 2 ≤ x.length
      simp at this
      omega
  cases h : adj c (T x) with
  | true => exact e.mpr h
  | false =>
    cases g : (!(Builtin.Str.occurrences x (U [c, c]) 0 x.length 1).isEmpty) with
    | true => rw [e.mp g] at h; cases h
    | false => rfl
/-! one sign off the ends -/
def offL (c : Nat) : List Nat → List Nat
  | x :: r => if x = c then r else x :: r
  | [] => []
def offR (c : Nat) (l : List Nat) : List Nat := (offL c l.reverse).reverse
theorem T_prefix (x : Str) (c : Nat) : T (Txt.removeprefix x (U [c])) = offL c (T x) := by
  rw [StrLaws.removeprefix_eq, StrLaws.subAt_eq]
  have e1 : (U [c]).length = 1 := rfl
  have e2 : x.cps.toList = T x := rfl
  have e3 : (U [c]).cps.toList = [c] := rfl
  rw [e1, e2, e3]
  cases h : T x with
  | nil =>
    rw [if_neg (by simp), h]; rfl
  | cons a r =>
    have hl : x.length = r.length + 1 := by rw [← T_len, h]; rfl
    by_cases q : a = c
    · subst q
      rw [if_pos (by simp [hl])]
      show T (U _) = _
      rw [T_U, hl]
      simp [offL]
    · rw [if_neg (by simp [q]), h]
      simp [offL, q]
theorem T_suffix (x : Str) (c : Nat) : T (Txt.removesuffix x (U [c])) = offR c (T x) := by
  rw [StrLaws.removesuffix_eq, StrLaws.subAt_eq]
  have e1 : (U [c]).length = 1 := rfl
  have e2 : x.cps.toList = T x := rfl
  have e3 : (U [c]).cps.toList = [c] := rfl
  rw [e1, e2, e3]
  unfold offR
  rcases List.eq_nil_or_concat (T x) with h | ⟨l, a, h⟩
  · have hl : x.length = 0 := by rw [← T_len, h]; rfl
    rw [if_neg (by simp [hl]), h]; rfl
  · have hl : x.length = l.length + 1 := by rw [← T_len, h]; simp
    rw [h]
    have e4 : (l.concat a).reverse = a :: l.reverse := by simp
    rw [e4]
    by_cases q : a = c
    · subst q
      rw [if_pos (by simp [hl])]
      show T (U _) = _
      rw [T_U, hl]
      simp [offL]
    · rw [if_neg (by simp [hl, q])]
      rw [h]
      simp [offL, q]
/-! orders -/
theorem one_lt (a b : Nat) : decide (T (U [a]) < T (U [b])) = decide (a < b) := by
  rw [T_one, T_one]
  by_cases h : a < b
  · rw [decide_eq_true h, decide_eq_true (by exact List.cons_lt_cons_iff.mpr (.inl h))]
  · rw [decide_eq_false h, decide_eq_false (fun z => by
      rcases List.cons_lt_cons_iff.mp z with q | ⟨_, q⟩
      · exact h q
      · cases q)]
end M

namespace M
open PySem PySem.Spec L2
theorem ens_CH {Q : D → Sto → Prop} {sl : Sl} {st : Sto} {g g' : Sto → D → D → MM D} {fa fb fc : FE} (h : Ens (fa sl st) fun x st => Ens (fb sl st) fun y st => Ens (g st x y) fun z st => ∃ k, z = .bl k ∧ (k = true → Ens (fc sl st) fun u st => Ens (g' st y u) Q) ∧ (k = false → Q (.bl false) st)) : Ens (mChain g g' fa fb fc sl st) Q :=
  ens_bnd (h.imp fun _ _ h => ens_bnd (h.imp fun _ _ h => ens_bnd (h.imp fun _ _ ⟨_, e, h⟩ => by
    subst e
    exact ens_cond (fun k => ens_bnd ((h.1 k).imp fun _ _ h => h)) fun k => ens_ret (h.2 k))))
def EnsZ {τ : Type} (m : MM τ) (Q : τ → Sto → Prop) (X : Exn → Prop) : Prop := match m with
  | some (.ok x st) => Q x st
  | some (.exc e _) => X e
  | none => False
def EnsZS (m : MM Fl) (N : Sl → Sto → Prop) (R : D → Sto → Prop) (X : Exn → Prop) : Prop := EnsZ m (fun f st => match f with
  | .nx sl => N sl st
  | .rt d => R d st
  | .bk _ => False
  | .ct _ => False) X
section
variable {τ υ : Type} {Q : τ → Sto → Prop} {X : Exn → Prop} {N : Sl → Sto → Prop} {R : D → Sto → Prop} {sl : Sl} {st : Sto}
theorem ez_of {m : MM τ} (h : Ens m Q) : EnsZ m Q X := by
  obtain ⟨x, st, rfl, q⟩ := h
  exact q
theorem ez_bnd {m : MM υ} {k : υ → Sto → MM τ} (h : EnsZ m (fun x st => EnsZ (k x st) Q X) X) : EnsZ (bnd m k) Q X := by
  match m, h with
  | some (.ok x st), h => exact h
  | some (.exc e st), h => exact h
theorem EnsZ.imp {m : MM τ} {Q' : τ → Sto → Prop} (h : EnsZ m Q X) (k : ∀ x st, Q x st → Q' x st) : EnsZ m Q' X := by
  match m, h with
  | some (.ok x st), h => exact k _ _ h
  | some (.exc e st), h => exact h
theorem ez_seq {g1 g2 : FS} (h : EnsZS (g1 sl st) (fun sl st => EnsZS (g2 sl st) N R X) R X) : EnsZS (sSeq g1 g2 sl st) N R X := by
  refine ez_bnd (EnsZ.imp h fun f st q => ?_)
  cases f with
  | nx _ => exact q
  | rt d => exact q
  | bk _ => exact q.elim
  | ct _ => exact q.elim
theorem ez_S {g : FS} (h : EnsS (g sl st) N R) : EnsZS (g sl st) N R X := by
  obtain ⟨f, s, e, q⟩ := h
  unfold EnsZS
  rw [e]
  cases f <;> exact q
theorem ez_if {c : FT} {g1 g2 : FS} (h : Ens (c sl st) fun b st => (b = true → EnsZS (g1 sl st) N R X) ∧ (b = false → EnsZS (g2 sl st) N R X)) : EnsZS (sIf c g1 g2 sl st) N R X := by
  obtain ⟨b, s, e, q⟩ := h
  show EnsZS (bnd (c sl st) fun k st => cond k (g1 sl st) (g2 sl st)) N R X
  rw [e]
  cases b with
  | true => exact q.1 rfl
  | false => exact q.2 rfl
theorem ez_raise {C : Addr} {flds : List Str} {chk : List D → Option D} {fs : FA} (h : Ens (fs sl st) fun ds st => (ds.length = flds.length ∧ (chk ds).isSome = true) ∧ X ⟨C, (flds.zip ds).reverse⟩) : EnsZS (sRaise C flds chk fs sl st) N R X := by
  obtain ⟨ds, s, e, c, q⟩ := h
  show EnsZS (bnd (fs sl st) fun ds st => if ds.length = flds.length ∧ (chk ds).isSome = true then some (.exc ⟨C, (flds.zip ds).reverse⟩ st) else none) N R X
  rw [e]
  show EnsZS (if ds.length = flds.length ∧ (chk ds).isSome = true then _ else none) N R X
  rw [if_pos c]
  exact q
theorem ez_def {Q : D → Sto → Prop} {n k : Nat} {g : FS} {ds : List D} (sl : Sl) (e : ds.map some ++ List.replicate (n - k) none = sl) (h : EnsZS (g sl st) (fun _ st => Q .non st) Q X) : EnsZ (mDef n k g ds st) Q X := by
  subst e
  refine ez_bnd (EnsZ.imp h fun f st q => ?_)
  cases f with
  | nx _ => exact q
  | rt d => exact q
  | bk _ => exact q.elim
  | ct _ => exact q.elim
theorem ez_B0 {Q : D → Sto → Prop} {n : Nat} {m : List D → Sto → MM D} {ds : List D} (hl : ds.length = n) (hp : noPtr ds = true) (pr : pfs ds = true) (h : EnsZ (m ds []) (fun d _ => pf d = true ∧ Q d st) fun e => pfX e = true ∧ X e) : EnsZ (callB n m ds st) Q X := by
  rw [callB_0 hl hp pr]
  unfold back0
  match m ds [], h with
  | some (.ok d cs), h =>
    show EnsZ (outB d cs 0 st) Q X
    unfold outB
    rw [if_pos h.1]; exact h.2
  | some (.exc e cs), h =>
    show EnsZ (if pfX e = true then some (.exc e st) else none) Q X
    rw [if_pos h.1]; exact h.2
end
end M

/-! repr of data, dicts among them. -/
namespace M
open PySem PySem.Spec PyProof.Rows L2
def keyPy : Key → PyData
  | .inl i => .int i
  | .inr x => .str x
mutual
inductive Dq (K : PySem.W.Frag) (H : Hp) : V → PyData → Prop
  | non : Dq K H .non .none
  | bl (b : Bool) : Dq K H (.bl b) (.bool b)
  | int (i : Int) : Dq K H (.int i) (.int i)
  | str (x : Str) : Dq K H (.str x) (.str x)
  | lst {a : Addr} {xs : List V} {ds : List PyData} (h : SqL K H a xs) (r : DqAll K H xs ds) : Dq K H (.ref a) (.list ds)
  | tup {a : Addr} {xs : List V} {ds : List PyData} (h : SqT K H a xs) (r : DqAll K H xs ds) : Dq K H (.ref a) (.tuple ds)
  | dct {a : Addr} {kvs : List (Key × V)} {ds : List PyData} (h : Rd H a (.dK kvs)) (r : DqAll K H (kvs.map (·.2)) ds) : Dq K H (.ref a) (.dict ((kvs.map fun p => keyPy p.1).zip ds))
  | dcT {a : Addr} {kvs : List (List Key × V)} {ds : List PyData} (h : Rd H a (.dT kvs)) (r : DqAll K H (kvs.map (·.2)) ds) : Dq K H (.ref a) (.dict ((kvs.map fun p => .tuple (p.1.map keyPy)).zip ds))
inductive DqAll (K : PySem.W.Frag) (H : Hp) : List V → List PyData → Prop
  | nil : DqAll K H [] []
  | cons {v : V} {vs : List V} {d : PyData} {ds : List PyData} (h : Dq K H v d) (r : DqAll K H vs ds) : DqAll K H (v :: vs) (d :: ds)
end
section
variable {X : Cx} {pins : List (Addr × Obj)} {σ : L2.St} {H : Hp} {s : Shared}
theorem DqAll.len {K : PySem.W.Frag} {vs : List V} {ds : List PyData} : DqAll K H vs ds → vs.length = ds.length
  | .nil => rfl
  | .cons _ r => congrArg (· + 1) r.len
mutual
/-- no list beside a dict -/
def noLs : PyData → Bool
  | .list _ => false
  | .tuple xs => noLsA xs
  | .dict kvs => noLsK kvs
  | _ => true
def noLsA : List PyData → Bool
  | [] => true
  | x :: r => noLs x && noLsA r
def noLsK : List (PyData × PyData) → Bool
  | [] => true
  | (k, v) :: r => noLs k && noLs v && noLsK r
end
theorem keyIs_reads {h : Heap} {k : Key} {v : Value} (e : keyIs k v = true) : Reads h v (keyPy k) [] := by
  rcases keyIs_shape e with ⟨i, t, rfl, rfl⟩ | ⟨x, t, rfl, rfl⟩
  · exact .int i t
  · exact .str x t
theorem keys_reads {P : Program} {w : World} {h : Heap} : ∀ {es : List DictEntry} {vs : List (Key × Value)}, Pairs (mixKind P w) es vs → ReadsAll h (es.map (·.key)) (vs.map fun p => keyPy p.1) []
  | _, _, .nil => .nil
  | _, _, .cons k _ r => ReadsAll.cons (as := []) (keyIs_reads k) (keys_reads r)
theorem pairs_vals {P : Program} {w : World} : ∀ {es : List DictEntry} {vs : List (Key × Value)}, Pairs (mixKind P w) es vs → es.map (·.val) = vs.map (·.2)
  | _, _, .nil => rfl
  | _, _, .cons _ e r => by rw [List.map_cons, List.map_cons, e, pairs_vals r]
theorem items_reads {P : Program} {w : World} {h : Heap} : ∀ {ks : List Key} {vs : List Value}, ItemsAre (mixKind P w) ks vs → ReadsAll h vs (ks.map keyPy) []
  | _, _, .nil => .nil
  | _, _, .cons k r => ReadsAll.cons (as := []) (keyIs_reads k) (items_reads r)
theorem vals_of {κ : Type} : ∀ {kvs : List (κ × V)} {vs : List (κ × Value)}, KV kvs vs → Vals (kvs.map (·.2)) (vs.map (·.2)) := by
  intro kvs vs r
  unfold KV at r
  induction r with
  | nil => exact .nil
  | cons h t ih => rw [List.map_cons, List.map_cons]; exact .cons h.2 ih
theorem zipk_fst {α : Type} : ∀ (xs : List α) (ys : List PyData) (f : α → PyData), xs.length = ys.length → ((xs.map f).zip ys).map (·.1) = xs.map f
  | [], [], _, _ => rfl
  | x :: xs, y :: ys, f, h => by
    rw [List.map_cons, List.zip_cons_cons, List.map_cons, zipk_fst xs ys f (by simpa using h)]
  | [], _ :: _, _, h => by simp at h
  | _ :: _, [], _, h => by simp at h
theorem zipk_snd {α : Type} : ∀ (xs : List α) (ys : List PyData) (f : α → PyData), xs.length = ys.length → ((xs.map f).zip ys).map (·.2) = ys
  | [], [], _, _ => rfl
  | x :: xs, y :: ys, f, h => by
    rw [List.map_cons, List.zip_cons_cons, List.map_cons, zipk_snd xs ys f (by simpa using h)]
  | [], _ :: _, _, h => by simp at h
  | _ :: _, [], _, h => by simp at h
theorem zip_noLs {α : Type} (f : α → PyData) : ∀ (xs : List α) (ys : List PyData), xs.length = ys.length → noLsK ((xs.map f).zip ys) = true → noLsA ys = true
  | [], [], _, _ => rfl
  | x :: xs, y :: ys, h, e => by
    rw [List.map_cons, List.zip_cons_cons, noLsK] at e
    simp only [Bool.and_eq_true] at e
    rw [noLsA, e.1.2, zip_noLs f xs ys (by simpa using h) e.2]; rfl
  | [], _ :: _, h, _ => by simp at h
  | _ :: _, [], h, _ => by simp at h
theorem kt_vals {H : Hp} : ∀ {kvs : List (List Key × V)} {xs : List (List Key × Addr × Value)}, KT H kvs xs → Vals (kvs.map (·.2)) (xs.map fun p => p.2.2)
  | _, _, .nil => .nil
  | _, _, .cons z t => .cons z.2.2 (kt_vals t)
theorem kt_keys {H : Hp} : ∀ {kvs : List (List Key × V)} {xs : List (List Key × Addr × Value)}, KT H kvs xs → kvs.map (fun p => PyData.tuple (p.1.map keyPy)) = xs.map fun p => .tuple (p.1.map keyPy)
  | _, _, .nil => rfl
  | _, _, .cons z t => by rw [List.map_cons, List.map_cons, kt_keys t, z.1]
theorem ne_sys {a : Addr} (h : (a == sysModules) = false) : sysModules ≠ a := fun e => by rw [← e] at h; simp at h
mutual
theorem Dq.reads (I : Inv X pins σ H s) : ∀ {v : V} {u : Value} {d : PyData}, Dq X.K H v d → RelV v u → ∃ as, Reads s.heap u d as ∧ (noLs d = true → sysModules ∉ as)
  | _, _, _, .non, r => by cases r; exact ⟨_, .none, fun _ => by simp⟩
  | _, _, _, .bl b, r => by cases r; exact ⟨_, .bool b, fun _ => by simp⟩
  | _, _, _, .int i, r => by obtain ⟨t, rfl⟩ := r; exact ⟨_, .int i t, fun _ => by simp⟩
  | _, _, _, .str x, r => by obtain ⟨t, rfl⟩ := r; exact ⟨_, .str x t, fun _ => by simp⟩
  | _, _, _, .lst h q, r => by
    cases r
    obtain ⟨its, rv, ⟨o, n, ho, hc, _, hd⟩, _⟩ := I.list h
    obtain ⟨as, hr, _⟩ := DqAll.reads I q rv
    exact ⟨_, .list ho hc hd hr, fun e => by rw [noLs] at e; cases e⟩
  | _, _, _, .tup (ds := ds) h q, r => by
    cases r
    obtain ⟨its, rv, ⟨o, ho, hc, n, hd⟩, _⟩ := I.tuple h
    obtain ⟨as, hr, hn⟩ := DqAll.reads I q rv
    exact ⟨_, .tuple ho hc hd hr, fun e => hn (by rw [noLs] at e; exact e)⟩
  | _, _, _, .dct (kvs := kvs) (ds := ds) h q, r => by
    cases r
    obtain ⟨_, hs, vs, rk, o, es, ep, ho, hx, hd, _, hp, _⟩ := dk_rd I.hok h
    obtain ⟨as, hr, hn⟩ := DqAll.reads I q (vals_of rk)
    have hl := q.len
    rw [List.length_map] at hl
    have e1 : kvs.map (fun p => keyPy p.1) = vs.map fun p => keyPy p.1 := by
      have := congrArg (List.map keyPy) rk.keys
      rw [List.map_map, List.map_map] at this
      exact this
    refine ⟨_, .dict (as := []) (bs := as) ho hx.1 hd ?_ ?_, fun e => ?_⟩
    · rw [zipk_fst kvs ds (fun p => keyPy p.1) hl, e1]; exact keys_reads hp
    · rw [zipk_snd kvs ds (fun p => keyPy p.1) hl, pairs_vals hp]; exact hr
    · rw [noLs] at e
      have := hn (zip_noLs _ kvs ds hl e)
      simp only [List.append_nil, List.cons_append, List.nil_append, List.mem_cons, not_or]
      exact ⟨ne_sys hs, this⟩
  | _, _, _, .dcT (kvs := kvs) (ds := ds) h q, r => by
    cases r
    obtain ⟨_, hs, xs, rk, o, es, ep, ho, hx, hd, he, hi, _⟩ := dt_rd I.hok h
    have rv : Vals (kvs.map (·.2)) (xs.map fun p => p.2.2) := kt_vals rk
    obtain ⟨as, hr, hn⟩ := DqAll.reads I q rv
    have hl := q.len
    rw [List.length_map] at hl
    have e1 : kvs.map (fun p => PyData.tuple (p.1.map keyPy)) = xs.map fun p => .tuple (p.1.map keyPy) := kt_keys rk
    have kr : ∀ {l : List (List Key × Addr × Value)}, (∀ x ∈ l, (tupleKind (mixKind X.prog X.w)).is s.heap x.1 x.2.1) → ReadsAll s.heap ((l.map (entryOfKey (tupleKind (mixKind X.prog X.w)))).map (·.key)) (l.map fun p => .tuple (p.1.map keyPy)) [] := by
      intro l
      induction l with
      | nil => intro _; exact .nil
      | cons p r ih =>
        intro hh
        obtain ⟨o, its, n, g1, g2, g3, g4⟩ := hh p List.mem_cons_self
        exact ReadsAll.cons (as := []) (.tuple g1 g2 g3 (items_reads g4)) (ih fun x m => hh x (List.mem_cons_of_mem _ m))
    refine ⟨_, .dict (as := []) (bs := as) ho hx.1 hd ?_ ?_, fun e => ?_⟩
    · rw [zipk_fst kvs ds (fun p => .tuple (p.1.map keyPy)) hl, e1, he]; exact kr hi
    · rw [zipk_snd kvs ds (fun p => .tuple (p.1.map keyPy)) hl, he, List.map_map]; exact hr
    · rw [noLs] at e
      have := hn (zip_noLs _ kvs ds hl e)
      simp only [List.append_nil, List.cons_append, List.nil_append, List.mem_cons, not_or]
      exact ⟨ne_sys hs, this⟩
theorem DqAll.reads (I : Inv X pins σ H s) : ∀ {vs : List V} {us : List Value} {ds : List PyData}, DqAll X.K H vs ds → Vals vs us → ∃ as, ReadsAll s.heap us ds as ∧ (noLsA ds = true → sysModules ∉ as)
  | _, _, _, .nil, r => by cases r; exact ⟨_, .nil, fun _ => by simp⟩
  | _, _, _, .cons (d := d) (ds := ds) h q, .cons r rs => by
    obtain ⟨as, h1, n1⟩ := Dq.reads I h r
    obtain ⟨bs, h2, n2⟩ := DqAll.reads I q rs
    refine ⟨_, .cons h1 h2, fun e => ?_⟩
    rw [noLsA, Bool.and_eq_true] at e
    simp only [List.mem_append, not_or]
    exact ⟨n1 e.1, n2 e.2⟩
end
end
section
variable {X : Cx}
def reprOk (d : PyData) : Bool := (!d.hasDict || noLs d) && d.showable && decide (d.shown.length ≤ 10000000) && decide (d.depth ≤ 60)
def rRepr (K : PySem.W.Frag) : List V → Hp → VK → Prop := fun xs H Q => ∃ a d, xs = [.ref a] ∧ Dq K H (.ref a) d ∧ reprOk d = true ∧ Q (.str d.shown) H
theorem call_repr (hg : X.A.guards = some []) (hu : X.A.units + 64 < cLine) : CallR X (.builtin "repr") (rRepr X.K) := by
  intro pins s σ H xs us Q I r h
  obtain ⟨a, d, rfl, hd, ok, q⟩ := h
  obtain ⟨u, rfl, ru⟩ := vals1 r
  cases ru
  obtain ⟨as, rd, hn⟩ := hd.reads I rfl
  unfold reprOk at ok
  simp only [Bool.and_eq_true, Bool.or_eq_true, decide_eq_true_eq, Bool.not_eq_true'] at ok
  obtain ⟨⟨⟨o1, o2⟩, o3⟩, o4⟩ := ok
  refine PySem.repr_of_reads' (h₀ := s.heap) rd o2 (fun e => ?_) hg (by omega) (fun _ _ e => e) (fun h' u tk hk => ?_) (by rw [sizeLine_eq]; omega)
  · rcases o1 with o1 | o1
    · rw [o1] at e; cases e
    · exact hn o1
  · exact ⟨.str d.shown, H, I.kept hk, ⟨u, rfl⟩, q⟩
end
/-! the plain function -/
mutual
def dq : D → Option PyData
  | .non => some .none
  | .bl b => some (.bool b)
  | .int i => some (.int i)
  | .str x => some (.str x)
  | .tup ds => (dqs ds).map .tuple
  | .lst ds => (dqs ds).map .list
  | .dct kvs => (dqk kvs).map fun vs => .dict ((kvs.map fun p => keyPy p.1).zip vs)
  | .dcT kvs => (dqt kvs).map fun vs => .dict ((kvs.map fun p => .tuple (p.1.map keyPy)).zip vs)
  | .ptr _ => none
  | .scr _ => none
def dqs : List D → Option (List PyData)
  | [] => some []
  | d :: r => match dq d, dqs r with
    | some x, some xs => some (x :: xs)
    | _, _ => none
def dqk : List (Key × D) → Option (List PyData)
  | [] => some []
  | (_, d) :: r => match dq d, dqk r with
    | some x, some xs => some (x :: xs)
    | _, _ => none
def dqt : List (List Key × D) → Option (List PyData)
  | [] => some []
  | (_, d) :: r => match dq d, dqt r with
    | some x, some xs => some (x :: xs)
    | _, _ => none
end
theorem dqk_eq : ∀ kvs : List (Key × D), dqk kvs = dqs (kvs.map (·.2))
  | [] => by rw [dqk, List.map_nil, dqs]
  | (_, d) :: r => by rw [dqk, List.map_cons, dqs, dqk_eq r]
theorem dqt_eq : ∀ kvs : List (List Key × D), dqt kvs = dqs (kvs.map (·.2))
  | [] => by rw [dqt, List.map_nil, dqs]
  | (_, d) :: r => by rw [dqt, List.map_cons, dqs, dqt_eq r]
section
variable {K : PySem.W.Frag} {w : Ws}
mutual
theorem dq_rep (o : Ok K w) : ∀ {v : V} {d : D} {x : PyData}, Rep K w.F w.al v d → dq d = some x → Dq K w.H v x
  | _, _, _, .non, h => by rw [dq] at h; cases h; exact .non
  | _, _, _, .bl b, h => by rw [dq] at h; cases h; exact .bl b
  | _, _, _, .int i, h => by rw [dq] at h; cases h; exact .int i
  | _, _, _, .str s, h => by rw [dq] at h; cases h; exact .str s
  | _, _, _, .tup (ds := ds) f r, h => by
    rw [dq] at h
    cases q : dqs ds with
    | none => rw [q] at h; cases h
    | some xs => rw [q] at h; cases h; exact .tup (SqT.of (o.sub _ _ f)) (dqs_rep o r q)
  | _, _, _, .lst (ds := ds) f r, h => by
    rw [dq] at h
    cases q : dqs ds with
    | none => rw [q] at h; cases h
    | some xs => rw [q] at h; cases h; exact .lst (SqL.of (o.sub _ _ f)) (dqs_rep o r q)
  | _, _, _, .dct (kvs := kvs) (ds := ds) f e r, h => by
    rw [dq] at h
    cases q : dqk ds with
    | none => rw [q] at h; cases h
    | some xs =>
      rw [q] at h; cases h
      rw [dqk_eq] at q
      have e1 : kvs.map (fun p => keyPy p.1) = ds.map fun p => keyPy p.1 := by
        have := congrArg (List.map keyPy) e
        rw [List.map_map, List.map_map] at this
        exact this
      rw [← e1]
      exact .dct (M.rd_of o.sub f) (dqs_rep o r q)
  | _, _, _, .dcT (kvs := kvs) (ds := ds) f e r, h => by
    rw [dq] at h
    cases q : dqt ds with
    | none => rw [q] at h; cases h
    | some xs =>
      rw [q] at h; cases h
      rw [dqt_eq] at q
      have e1 : kvs.map (fun p => PyData.tuple (p.1.map keyPy)) = ds.map fun p => .tuple (p.1.map keyPy) := by
        have := congrArg (List.map fun k : List Key => PyData.tuple (k.map keyPy)) e
        rw [List.map_map, List.map_map] at this
        exact this
      rw [← e1]
      exact .dcT (M.rd_of o.sub f) (dqs_rep o r q)
  | _, _, _, .ptr _, h => by rw [dq] at h; cases h
  | _, _, _, .scr _, h => by rw [dq] at h; cases h
theorem dqs_rep (o : Ok K w) : ∀ {vs : List V} {ds : List D} {xs : List PyData}, Reps K w.F w.al vs ds → dqs ds = some xs → DqAll K w.H vs xs
  | _, _, _, .nil, h => by rw [dqs] at h; cases h; exact .nil
  | _, _, _, .cons (d := d) (ds := ds) r rs, h => by
    rw [dqs] at h
    cases q : dq d with
    | none => simp only [q] at h; cases h
    | some x =>
      cases q2 : dqs ds with
      | none => simp only [q, q2] at h; cases h
      | some xs => simp only [q, q2] at h; cases h; exact .cons (dq_rep o r q) (dqs_rep o rs q2)
end
end
def isSeqD : D → Bool
  | .tup _ => true
  | .lst _ => true
  | .dct _ => true
  | .dcT _ => true
  | _ => false
def cRepr (st : Sto) (ds : List D) : MM D := match ds with
  | [d] => match dq d with
    | some x => if isSeqD d = true ∧ reprOk x = true then ret (.str x.shown) st else none
    | none => none
  | _ => none
theorem rf_repr {K : PySem.W.Frag} {E : XK} : RfC K E (rRepr K) cRepr := fun xs ds w Q o r hp => by
  unfold cRepr at hp
  split at hp
  · rename_i d
    obtain ⟨v, rfl, rx⟩ := r.one_inv
    cases q : dq d with
    | none => simp only [q] at hp; exact hp.elim
    | some x =>
      simp only [q] at hp
      obtain ⟨⟨h1, h2⟩, hp⟩ := post_ite hp
      have hd := dq_rep o rx q
      have hv : ∃ a, v = .ref a := by
        cases rx with
        | tup _ _ => exact ⟨_, rfl⟩
        | lst _ _ => exact ⟨_, rfl⟩
        | dct _ _ _ => exact ⟨_, rfl⟩
        | dcT _ _ _ => exact ⟨_, rfl⟩
        | _ => cases h1
      obtain ⟨a, rfl⟩ := hv
      exact ⟨a, x, rfl, hd, h2, post_ret o (.str _) hp⟩
  · exact hp.elim
theorem ens_repr {st : Sto} {d : D} {x : PyData} {Q : D → Sto → Prop} (e : dq d = some x) (h1 : isSeqD d = true) (h2 : reprOk x = true) (q : Q (.str x.shown) st) : Ens (cRepr st [d]) Q := by
  unfold cRepr
  simp only [e]
  exact ens_ite ⟨h1, h2⟩ (ens_ret q)
end M

/-! The law's def where it is called: no guard stands there, so repr of data may run. -/
namespace M
open PySem PySem.Spec PyProof.Rows L2
section
variable {P : Program} {w : World} {K : PySem.W.Frag} {mg : Str → Option Value} {base : Heap}
theorem zip_kind {N ps : List Str} {sc : Scope} (S : FnScope N ps sc) (us : List Value) (m : Nat) (y : Str × Value) (hy : y ∈ ps.zip us) :
    sc.names.lookup y.1 = some .local ∨ (sc.names.lookup y.1 = some .cell ∧ ((cellsFrom m sc.names []).lookup y.1).isSome = true) := by
  have hm : y.1 ∈ ps := (List.of_mem_zip (a := y.1) (b := y.2) hy).1
  cases S.par _ hm with
  | inl q => exact .inl q
  | inr q => exact .inr ⟨q, PySem.W.cellsFrom_some _ _ _ (.inl q)⟩
/-- a def at one place -/
theorem fn_here {x qual : Str} {st : Stmt} {f : Addr} {fd : FuncData} {N ps : List Str} {k : Nat} {g : FS} {A : Around} {outer : List Env} {s : Shared} {H : Hp} {args : Args} {us : List Value} {vs : List V} {Q : VK} {E : XK}
    (F : Fun K x qual st f fd) (S : FnScope N ps (defScope st)) (hr : Room (k + 1) A) (e0 : Env0 P w K mg base A outer s H) (hb : BindsTo s fd args (ps.zip us)) (r : Vals vs us) (hs : spM K ps.length (mDef N.length ps.length g) vs H Q E)
    (body : ∀ cdv : Value, Room k (A.deeper (envOfC qual (defScope st) s.heap.objs.size f cdv)) → MSs (cxOf CX0 P w K mg base N qual (defScope st) f cdv A outer s H E).nox E (defBody st) g) :
    codeAny (model P w) A (.call (.ref f) args) (CR CX0 outer P w H s Q E) s := by
  obtain ⟨oc, od, kV, doc, pm, an, cdv, ct, osl, rfl, lk, hcd⟩ := F.ex
  obtain ⟨t, p, q⟩ := (body cdv (hr.deeper _)).ex
  have goal := post_def q hs
  have runs := p.nox
  have here : K.In s.heap := e0.mod.kin.keeps fun b o z => (e0.bs b o z).1
  have nolim : s.heap.NoLimit := e0.mod.nolimit.keeps fun b o z => (e0.bs b o z).1
  have hl : vs.length = ps.length := spM_len hs
  have enter := PySem.W.codeRec_of here hcd
  refine codeAny_call_function hr.depth (here _ _ lk) rfl S.co S.gen rfl enter (hb _ _ _ _ ?_)
  refine wpAny_newFunctionEnv_cells S.kind (zip_kind S us _) fun env ee s1 ic => ?_
  subst ee
  refine ⟨nolim.keeps ic.toInCall.keep, codeAny_func ?_⟩
  have I0 := inv_start (CX := CX0) (E := E) (cd := cdv) (qual := qual) (f := f) S hr.hd e0 hl r ic
  refine wpAny_mono (runs.run [] s1 (start N vs) H _ I0 goal) (fun fl s' z => ?_) fun _ _ z => z
  match fl, z with
  | .ret u, ⟨v, _, H', J, rv, z⟩ => exact ⟨v, H', J.os, J.bare, J.base, J.hok, rv, z⟩
  | .next, ⟨_, H', J, z⟩ => exact ⟨V.non, H', J.os, J.bare, J.base, J.hok, rfl, z⟩
  | .brk, ⟨_, _, _, z⟩ => exact z.elim
  | .cont, ⟨_, _, _, z⟩ => exact z.elim
/-- what the law's def does at the caller -/
def Here (P : Program) (w : World) (K : PySem.W.Frag) (mg : Str → Option Value) (f : Addr) (fd : FuncData) : Prop := ∀ (base : Heap), K.In base → base.Ns mainGlobals mg → ∀ (s : Shared) (H : Hp) (a : Addr) (ns : List Int), Env0 P w K mg base callerA [] s H →
  BindsTo s fd ⟨[.ref a], []⟩ [("script", .ref a)] → SqL K H a (ns.map V.int) → ns.length ≤ 63 → (∀ z ∈ ns, Builtin.Int.intBits z ≤ 1048576) →
  codeAny (model P w) callerA (.call (.ref f) ⟨[.ref a], []⟩) (CR CX0 [] P w H s (fun v _ => v = .bl true) (fun _ _ _ => False)) s
/-- from the def to the claim's own end -/
theorem ends_well {H : Hp} {s1 : Shared} (only : Only H) (ok1 : HOk P w H s1.heap) {r : Result} {s2 : Shared} (c : CR CX0 [] P w H s1 (fun v _ => v = .bl true) (fun _ _ _ => False) r s2) :
    r = .ok (.ret (.bool true)) ∧ OldK s1.heap s2.heap ∧ s2.os = s1.os ∧ AllBare s2.gens := by
  match r, c with
  | .error e, c => exact False.elim c
  | .ok .next, c => exact False.elim c
  | .ok .brk, c => exact False.elim c
  | .ok .cont, c => exact False.elim c
  | .ok (.ret u), c =>
    obtain ⟨v, H2, os, bare, un, ok2, rv, e⟩ := c
    subst e
    have eu : u = Value.bool true := rv
    subst eu
    refine ⟨rfl, .of_keep fun b o z => ?_, os, bare⟩
    match hb : H b with
    | none => exact un.keep b o z hb (fun m => absurd (show b ∈ ([] : List Addr) from m) (by simp)) (by simp)
    | some ho =>
      rcases only b with n | ⟨o1, xs, n⟩
      · rw [hb] at n; cases n
      · obtain ⟨g1, _⟩ := ok1 b _ n
        obtain ⟨g2, _⟩ := ok2 b _ (un.frzs b o1 _ n)
        rw [z] at g1
        cases g1
        exact g2
theorem hid_ns {H : Hp} {h : Heap} (nd : ∀ b o (es : Array DictEntry) (n : Nat), h.get? b = some o → o.data = .dict es n → H b = none) {b : Addr} {m : Str → Option Value} : h.Ns b m → (hidT h H).Ns b m := fun ⟨o, es, n, e, d, r⟩ => ⟨o, es, n, hidT_get e (nd b o es n e d), d, r⟩
/-- one heap beside the script -/
theorem here_core {H : Hp} {s1 : Shared} {mb : Str → Option Value} {f a : Addr} {fd : FuncData} {vs : List Value} {ns : List Int} (F : Here P w K mg f fd) (bind : ∀ (s : Shared) (u : Value), BindsTo s fd ⟨[u], []⟩ [("script", u)])
    (kin : K.In s1.heap) (g1 : s1.heap.Ns mainGlobals mg) (g2 : s1.heap.Ns builtinsNs mb) (g3 : ∀ x : Str, x ≠ "__name__" → mb x = bootBuiltins x) (g4 : s1.heap.NoLimit) (g5 : s1.gens = #[])
    (obj : s1.heap.get? a = some { cls := .type "list", data := .seq vs.toArray }) (hl : ns.length ≤ 63) (bits : ∀ z ∈ ns, Builtin.Int.intBits z ≤ 1048576)
    (only : Only H) (sq : SqL K H a (ns.map V.int)) (ok1 : HOk P w H s1.heap) (at_a : ∀ b, H b ≠ none → b = a) (noK : H a ≠ none → K.lookup a = none) :
    codeAny (model P w) callerA (.call (.ref f) ⟨[.ref a], []⟩) (fun r s2 => r = .ok (.ret (.bool true)) ∧ OldK s1.heap s2.heap ∧ s2.os = s1.os ∧ AllBare s2.gens) s1 := by
  have nd : ∀ b o (es : Array DictEntry) (n : Nat), s1.heap.get? b = some o → o.data = .dict es n → H b = none := fun b o es n e d => by
    match hb : H b with
    | none => rfl
    | some _ =>
      obtain rfl := at_a b (by rw [hb]; exact Option.some_ne_none _)
      rw [obj] at e
      cases e
      have d2 : Data.seq vs.toArray _ = Data.dict es n := d
      cases d2
  have kin2 : K.In (hidT s1.heap H) := fun b o e => hidT_get (kin b o e) (by
    match hb : H b with
    | none => rfl
    | some _ =>
      obtain rfl := at_a b (by rw [hb]; exact Option.some_ne_none _)
      rw [noK (by rw [hb]; exact Option.some_ne_none _)] at e
      cases e)
  have lim2 : (hidT s1.heap H).NoLimit := by
    obtain ⟨mc, n1, n2⟩ := g4
    exact ⟨mc, hid_ns nd n1, n2⟩
  have md : Mod K mg (hidT s1.heap H) := ⟨kin2, hid_ns nd g1, ⟨mb, hid_ns nd g2, g3⟩, lim2⟩
  have e0 : Env0 P w K mg (hidT s1.heap H) callerA [] s1 H := ⟨rfl, md, fun _ _ e => of_hidT e, Nat.le_of_eq (hidT_size _ _), trivial, fun b m => absurd (show b ∈ ([] : List Addr) from m) (by simp), ok1, AllBare.of_eq g5⟩
  exact codeAny_mono (F _ kin2 (hid_ns nd g1) s1 H a ns e0 (bind _ _) sq hl bits) fun r s2 c => ends_well only ok1 c
theorem here_call {s1 : Shared} {mb : Str → Option Value} {f a : Addr} {fd : FuncData} {vs : List Value} {ns : List Int} (F : Here P w K mg f fd) (bind : ∀ (s : Shared) (u : Value), BindsTo s fd ⟨[u], []⟩ [("script", u)])
    (kin : K.In s1.heap) (g1 : s1.heap.Ns mainGlobals mg) (g2 : s1.heap.Ns builtinsNs mb) (g3 : ∀ x : Str, x ≠ "__name__" → mb x = bootBuiltins x) (g4 : s1.heap.NoLimit) (g5 : s1.gens = #[])
    (obj : s1.heap.get? a = some { cls := .type "list", data := .seq vs.toArray }) (iv : IntsAre vs ns) (hl : ns.length ≤ 63) (bits : ∀ z ∈ ns, Builtin.Int.intBits z ≤ 1048576) :
    codeAny (model P w) callerA (.call (.ref f) ⟨[.ref a], []⟩) (fun r s2 => r = .ok (.ret (.bool true)) ∧ OldK s1.heap s2.heap ∧ s2.os = s1.os ∧ AllBare s2.gens) s1 := by
  have rv := vals_ints iv
  have lv := iv.length
  have big : ns.length ≤ sizeLine := by rw [sizeLine_eq]; omega
  match hk : K.lookup a with
  | some o =>
    have e := kin a o hk
    rw [obj] at e
    cases e
    exact here_core (H := fun _ => none) F bind kin g1 g2 g3 g4 g5 obj hl bits (fun _ => .inl rfl) (.inr ⟨_, vs.toArray, _, hk, rfl, rfl, rfl, by rw [List.size_toArray, lv]; exact big, by simpa using rv⟩) (fun b u z => by cases z) (fun b z => absurd rfl z) fun z => absurd rfl z
  | none =>
    let H : Hp := fun b => if b = a then some (.frz { cls := .type "list", data := .seq vs.toArray } (.lst (ns.map V.int))) else none
    have at1 : H a = some (.frz { cls := .type "list", data := .seq vs.toArray } (.lst (ns.map V.int))) := if_pos rfl
    have at2 : ∀ b, b ≠ a → H b = none := fun b z => if_neg z
    refine here_core (H := H) F bind kin g1 g2 g3 g4 g5 obj hl bits (fun b => ?_) (.inl (.inr ⟨_, at1⟩)) (fun b u z => ?_) (fun b z => ?_) fun _ => hk
    · exact (Classical.em (b = a)).elim (fun e => .inr ⟨_, _, by rw [e]; exact at1⟩) fun e => .inl (at2 b e)
    · rcases Classical.em (b = a) with rfl | e
      · rw [at1] at z
        cases z
        exact ⟨obj, by rw [List.length_map]; exact big, vs, _, rv, obj⟩
      · rw [at2 b e] at z; cases z
    · exact Classical.byContradiction fun e => z (at2 b e)
end
theorem walk_here {l : PySem.W.OpenLaw} {q : Program} {loose : List Str} {XP : (Str → Option Value) → Heap → Prop} {YP : World → Heap → Prop} {d : DefRec} {K : Params → PySem.W.Frag}
    (hn : l.most = some 63) (hdf : d.params.defaults = []) (hY : ∀ (w : World) (h : Heap), YP w h → (K w.params).In h)
    (F : ∀ (w : World) (mg : Str → Option Value) (fa : Addr) (h : Heap), (K w.params).In h → h.Ns mainGlobals mg → mg d.name = some (.ref fa) →
      ∃ fd : FuncData, (∀ (s : Shared) (u : Value), BindsTo s fd ⟨[u], []⟩ [("script", u)]) ∧ Here l.prog w (K w.params) mg fa fd) :
    PySem.W.WalkO q loose XP YP l.row.toRowW d [] (fun f vs => PySem.call f vs) := by
  refine Att.attach_callB hn hdf fun w s0 s1 mg mb fa o pm cd doc a vs ns G Y _ _ _ hmg obj iv hlen bits gens => ?_
  have kin := hY w _ Y
  obtain ⟨fd, bind, hF⟩ := F w mg fa _ kin G.T.g hmg
  exact here_call hF bind kin G.T.g G.T.b G.T.builtins G.T.nolimit gens obj iv hlen bits
end M

/-! more rules: range downwards, list.insert, the law's def -/
namespace M
open PySem L2
section
variable {X : Cx} {E : XK} {K : PySem.W.Frag} {a b c e o tg : Expr} {es : List Expr} {fa fb fc : FE} {fs : FA} {pos apos cpos : Pos}
/-- hi, hi - 1, .. -/
def rngM (hi : Int) (n : Nat) : List D := (List.range n).map fun (i : Nat) => .int (hi + (i : Int) * (-1))
theorem seq_rngM {w : Ws} (hi : Int) (n : Nat) : SeqIt K w (Itc hi (-1) n) (rngM hi n) := fun w' o s => by
  have el : (rngM hi n).length = n := by unfold rngM; rw [List.length_map, List.length_range]
  refine ⟨by rw [el]; exact Nat.le_refl _, fun i d e => ?_⟩
  unfold rngM at e
  rw [List.getElem?_map] at e
  have hi' : i < n := by
    by_cases z : i < n
    · exact z
    · rw [List.getElem?_eq_none (by rw [List.length_range]; omega)] at e; cases e
  rw [List.getElem?_range hi'] at e
  cases e
  refine ⟨hi', fun x H' hy => ?_⟩
  obtain ⟨rfl, rfl⟩ := hy
  exact ⟨w', rfl, rfl, o, Step.refl _, .int _⟩
def iR3 (f : FA) : FA := fun sl st => bnd (f sl st) fun ds st => match ds with
  | [.int i, .int j, .int k] => if k = -1 ∧ -(2 ^ 62) ≤ i ∧ i < 2 ^ 62 ∧ -(2 ^ 62) ≤ j ∧ j < 2 ^ 62 then ret (rngM i (i - j).toNat) st else none
  | _ => none
theorem Reps.three_inv {F : Hp} {α : List Addr} {vs : List V} {a b c : D} (r : Reps K F α vs [a, b, c]) : ∃ x y z, vs = [x, y, z] ∧ Rep K F α x a ∧ Rep K F α y b ∧ Rep K F α z c := by
  cases r with
  | cons ra r => cases r with
    | cons rb r => cases r with
      | cons rc r => cases r; exact ⟨_, _, _, rfl, ra, rb, rc⟩
theorem mi_range3 {p : Pos} (ha : MA X E [a, b, c] fs) (hm : X.mg "range" = none) (hg : Gl X "range" := by rfl)
    (hs : starEach [a, b, c] X.env = (false, eval a X.env) :: starEach [b, c] X.env := by rfl) (hpl : (backTo pos (starEach [b, c] X.env)).any (·.1) = false := by rfl) : MI X E tg (.Call (.Name "range" p) [a, b, c] [] pos) (iR3 fs) := by
  obtain ⟨t, p, q⟩ := ha.ex
  refine ⟨_, pi_range3 hg hm p hs hpl, fun sl σ w R o s h => ?_⟩
  refine q sl σ w _ o s (post_bnd h fun vs ds w1 o1 s1 r hp => ?_)
  split at hp
  · rename_i i j k
    obtain ⟨x, y, z, rfl, rx, ry, rz⟩ := r.three_inv
    obtain ⟨hc, hq⟩ := post_ite (p := k = -1 ∧ -(2 ^ 62) ≤ i ∧ i < 2 ^ 62 ∧ -(2 ^ 62) ≤ j ∧ j < 2 ^ 62) hp
    obtain ⟨rfl, c1, c2, c3, c4⟩ := hc
    exact ⟨i, j, -1, _, by rw [rx.int_inv, ry.int_inv, rz.int_inv], RgC.neg c1 c2 c3 c4, post_ret (rp := fun w J ds => SeqIt X.K w J ds) o1 (seq_rngM _ _) hq⟩
  · exact hp.elim
def insD (ds : List D) (i : Int) (y : D) : List D := ds.take i.toNat ++ [y] ++ ds.drop i.toNat
def gInsert (st : Sto) (x : D) (as : List D) : MM D := match x, as with
  | .ptr p, [.int i, y] => match cellL st p with
    | some ds => if ds.length < sizeLine ∧ 0 ≤ i ∧ i < 2 ^ 63 then putL p (insD ds i y) .non st else none
    | none => none
  | _, _ => none
def rInsert : V → List V → Hp → VK → Prop := fun x vs H Q => ∃ (l : Addr) (xs : List V) (i : Int) (y : V), x = .ref l ∧ vs = [.int i, y] ∧ H l = some (.lst xs) ∧ xs.length < sizeLine ∧ 0 ≤ i ∧ i < 2 ^ 63 ∧ Q .non (upd H l (.lst (xs.take i.toNat ++ [y] ++ xs.drop i.toNat)))
theorem rf_insert : RfM K E rInsert gInsert := fun x dx xs ds w Q o rx rs h => by
  unfold gInsert at h
  split at h
  · rename_i p i y
    cases q : cellL w.st p with
    | none => rw [q] at h; exact h.elim
    | some ds =>
      rw [q] at h
      obtain ⟨⟨hl, h0, h1⟩, h⟩ := post_ite h
      obtain ⟨l, ys, rfl, ea, es, hx, r⟩ := cell_lst o rx q
      obtain ⟨u, v, rfl, ru, rv⟩ := rs.two_inv
      exact ⟨l, ys, i, v, rfl, by rw [ru.int_inv], hx, by rw [r.length]; exact hl, h0, h1, post_putL o es ea h .non (((r.take _).append (.cons rv .nil)).append (r.drop _))⟩
  · exact h.elim
end
section
open PySem.Spec PyProof.Rows
variable {P : Program} {w : World} {K : PySem.W.Frag} {mg : Str → Option Value} {base : Heap}
/-- the law's def, at the caller -/
theorem fn_law {st : Stmt} {f : Addr} {fd : FuncData} {N : List Str} {k : Nat} {g : FS} {s : Shared} {H : Hp} {a : Addr} {ns : List Int}
    (F : Fun K "law" "law" st f fd) (S : FnScope N ["script"] (defScope st)) (hr : Room (k + 1) callerA) (e0 : Env0 P w K mg base callerA [] s H) (hb : BindsTo s fd ⟨[.ref a], []⟩ [("script", .ref a)]) (sq : SqL K H a (ns.map V.int))
    (hm : ∃ st', mDef N.length 1 g [.scr ns] [] = some (.ok (.bl true) st'))
    (body : ∀ cdv : Value, Room k (callerA.deeper (envOfC "law" (defScope st) s.heap.objs.size f cdv)) → (callerA.deeper (envOfC "law" (defScope st) s.heap.objs.size f cdv)).guards = some [] → MSs (cxOf CX0 P w K mg base N "law" (defScope st) f cdv callerA [] s H (fun _ _ _ => False)).nox (fun _ _ _ => False) (defBody st) g) :
    codeAny (model P w) callerA (.call (.ref f) ⟨[.ref a], []⟩) (CR CX0 [] P w H s (fun v _ => v = .bl true) (fun _ _ _ => False)) s := by
  refine fn_here (us := [.ref a]) (vs := [.ref a]) F S hr e0 hb (.cons rfl .nil) ?_ fun cdv hr => body cdv hr (by first | rfl | simp [Around.deeper, callerA])
  obtain ⟨st', e⟩ := hm
  refine ⟨⟨[], [], H, H⟩, [.scr ns], rfl, ⟨rfl, fun _ _ h => h, fun i c z => by simp at z, fun i j a ⟨c, z⟩ => by simp at z⟩, .cons (.scr sq) .nil, rfl, ?_⟩
  show Post K _ (rD K) _ (mDef N.length 1 g [.scr ns] []) _
  rw [e]
  intro v w' _ _ _ r
  exact r.bl_inv
end
end M

/-! enumerate over a text -/
namespace M
open PySem PySem.Spec PyProof.Rows L2
/-- the signs of a text, each in a new pair -/
def Itq (x : Str) : It :=
  ⟨fun i _ => i < x.cps.size, fun i H v H' => ∃ T c, v = .ref T ∧ H T = none ∧ H' = upd H T (.tup [.int (i : Nat), .str ⟨#[c]⟩]) ∧ x.cps[i]? = some c, fun i _ => i = x.cps.size⟩
theorem turn_enumS {P : Program} {w : World} {K : PySem.W.Frag} {elts : List Expr} {kk : Nat} {tpos : Pos} (x : Str) (t : Tok) (e it : Addr) (ty : String) (hty : ty = "str_ascii_iterator" ∨ ty = "str_iterator") :
    Turn P w K (.Tuple elts kk tpos) (Itq x) [e, it] e (fun i h => (∃ old, IsEnum h e it ((i : Nat) : Int) old) ∧ h.IsStrIter it ty x t i ∧ e ≠ it) where
  mem := by simp
  obj := by
    rintro i h ⟨⟨old, he⟩, ⟨o, ho, hc, hd⟩, _⟩ b hb
    simp only [List.mem_cons, List.not_mem_nil, or_false] at hb
    rcases hb with rfl | rfl
    · exact ⟨_, he, fun v q => nomatch q⟩
    · exact ⟨o, ho, fun v q => by rw [hd] at q; cases q⟩
  keep := by
    rintro i h h' ⟨⟨old, he⟩, ⟨o, ho, r⟩, hne⟩ k
    exact ⟨⟨old, k e (by simp) _ he⟩, ⟨o, k it (by simp) o ho, r⟩, hne⟩
  item := by
    intro X hP hw hK hc i pins s σ H E I hf st hg
    subst hP hw hK
    obtain ⟨⟨old, he⟩, hit, hne⟩ := st
    have D : Draws X.prog X.w X.A.in1 it [it] x.cps.size (fun i v => ∃ c u, x.cps[i]? = some c ∧ v = .str ⟨#[c]⟩ u) (fun i h => h.IsStrIter it ty x t i) := by
      rcases hty with z | z
      · rw [z]; exact Draws.strAscii (A := X.A.in1) (I.ok.hd hc) it x t
      · rw [z]; exact Draws.strWide (A := X.A.in1) (I.ok.hd hc) it x t
    have hel : e < s.heap.objs.size := Heap.lt_size he
    have hil : it < s.heap.objs.size := by
      obtain ⟨_, q, _⟩ := hit
      exact Heap.lt_size q
    refine wpAny_pyNext_enum_itemD D he hit hg hne (by simpa using hne) fun u h' tk hu ho hit' hT hsz hk => ?_
    obtain ⟨c, tc, hcx, rfl⟩ := hu
    refine ⟨_, rfl, wpAny_letOwnedTupleGo_enum (s := { s with heap := h', toks := tk + 1 }) ho fun h2 he' sb => ?_⟩
    have g2 : h2.get? s.heap.objs.size = some { cls := .type "tuple", data := .seq #[.int i tk, .str ⟨#[c]⟩ tc] } := (sb.2 _ (Nat.ne_of_gt hel)).trans hT
    let no : HO := .tup [.int (i : Nat), .str ⟨#[c]⟩]
    have new : ObjOk X.prog X.w (upd H s.heap.objs.size no) h2 s.heap.objs.size no := ⟨by show 2 ≤ sizeLine; decide, [.int i tk, .str ⟨#[c]⟩ tc], .cons ⟨_, rfl⟩ (.cons ⟨_, rfl⟩ .nil), ⟨_, g2, rfl, _, rfl⟩⟩
    have kept : ∀ b ob, b ∉ [e, it] → s.heap.get? b = some ob → h2.get? b = some ob := fun b ob nb q => by
      simp only [List.mem_cons, List.not_mem_nil, or_false, not_or] at nb
      exact (sb.2 b nb.1).trans (hk b ob nb.1 nb.2 q)
    have I1 : Inv X pins σ (upd H s.heap.objs.size no) { s with heap := h2, toks := tk + 1 } := I.turnedNew (ch := [e, it]) kept hf (Nat.le_refl _) new
    have old' : ∀ b ∈ [e, it], b < s.heap.objs.size := fun b hb => by
      simp only [List.mem_cons, List.not_mem_nil, or_false] at hb
      rcases hb with rfl | rfl
      · exact hel
      · exact hil
    refine ⟨.ref s.heap.objs.size, _, I1, rfl, ⟨_, c, rfl, I.hok.fresh (Nat.le_refl _), rfl, hcx⟩, ⟨⟨_, by rw [show ((i + 1 : Nat) : Int) = (i : Int) + 1 by omega]; exact he'⟩, ?_, hne⟩, fun b hb => ?_⟩
    · obtain ⟨o, q, r⟩ := hit'
      exact ⟨o, (sb.2 it (Ne.symm hne)).trans q, r⟩
    · rw [upd_ne (Nat.ne_of_lt (old' b hb))]
      exact (hf b hb).1
  done := by
    intro X hP hw hK hc i pins s σ H E I hf st hg
    subst hP hw hK
    obtain ⟨⟨old, he⟩, hit, hne⟩ := st
    obtain ⟨f0, f1, f2, f3, f4, f5⟩ := hf it (by simp)
    have D : Draws X.prog X.w X.A.in1 it [it] x.cps.size (fun i v => ∃ c u, x.cps[i]? = some c ∧ v = .str ⟨#[c]⟩ u) (fun i h => h.IsStrIter it ty x t i) := by
      rcases hty with z | z
      · rw [z]; exact Draws.strAscii (A := X.A.in1) (I.ok.hd hc) it x t
      · rw [z]; exact Draws.strWide (A := X.A.in1) (I.ok.hd hc) it x t
    have hi : i = x.cps.size := hg
    subst hi
    exact wpAny_pyNext_enum_endD D he hit fun h' eb => ⟨rfl, I.turned (t' := s.toks) (fun b o hb q => eb b o hb q) f0 f1 f3 f4 f5⟩
  self := by
    rintro A i s Q E ⟨⟨_, he⟩, _⟩ h
    exact wpAny_pyIter_enum he h
def iEnumS (ta : TA) : TI := fun σ H R => ta σ H fun vs H1 => ∃ x, vs = [.str x] ∧ R (Itq x) H1
theorem pi_enumS {X : Cx} {e : Expr} {ta : TA} {p pos tpos : Pos} {elts : List Expr} {kk : Nat} (hg : Gl X "enumerate") (hm : X.mg "enumerate" = none) (ha : PA X [e] ta) (hs : starEach [e] X.env = [(false, eval e X.env)] := by rfl) :
    PI X (.Tuple elts kk tpos) (.Call (.Name "enumerate" p) [e] [] pos) (iEnumS ta) := by
  refine ⟨fun pins s σ H R I h => ?_⟩
  refine Call_ (ld_blt I hg hm boot_enumerate (PyProof.Rows.callWith_type1 (thn (ha.run pos pins s σ H _ I h) fun us s1 got => ?_) hs rfl))
  obtain ⟨vs, H1, I1, r1, x, rfl, q⟩ := got
  obtain ⟨u, rfl, t, rfl⟩ := vals1 r1
  refine call_enumerate_str fun h' he hit hsz hk => wpAny_pyIter_enum he ?_
  have I2 : Inv X pins σ H1 { s1 with heap := h' } := I1.kept (t' := s1.toks) hk
  have ty : strIterType x = "str_ascii_iterator" ∨ strIterType x = "str_iterator" := by
    unfold strIterType
    split
    · exact .inl rfl
    · exact .inr rfl
  refine ⟨s1.heap.objs.size + 1, [s1.heap.objs.size + 1, s1.heap.objs.size], _, _, H1, rfl, I2, turn_enumS x t (s1.heap.objs.size + 1) s1.heap.objs.size _ ty, ⟨⟨.none, he⟩, hit, Nat.succ_ne_self _⟩, fun b hb => ?_, q⟩
  have lo : s1.heap.objs.size ≤ b := by
    simp only [List.mem_cons, List.not_mem_nil, or_false] at hb
    rcases hb with rfl | rfl
    · exact Nat.le_succ _
    · exact Nat.le_refl _
  exact I1.fpOk lo (I1.hok.fresh lo)
section
variable {K : PySem.W.Frag}
theorem seq_enumS {w : Ws} (x : Str) : SeqIt K w (Itq x) (enumD (chrD x)) := fun w' o s => by
  have el : (enumD (chrD x)).length = x.cps.size := by unfold enumD chrD; rw [List.length_map, List.length_zipIdx, List.length_map]; rfl
  refine ⟨el, fun i d e => ?_⟩
  unfold enumD chrD at e
  rw [List.getElem?_map, List.getElem?_zipIdx, List.getElem?_map] at e
  cases q : x.cps.toList[i]? with
  | none => rw [q] at e; cases e
  | some c =>
    rw [q] at e
    simp only [Option.map_some, Option.some.injEq] at e
    subst e
    have q' : x.cps[i]? = some c := by rw [← Array.getElem?_toList]; exact q
    have hi : i < x.cps.size := (Array.getElem?_eq_some_iff.mp q').1
    refine ⟨hi, fun v H' hy => ?_⟩
    obtain ⟨T, c2, rfl, nT, rfl, hx⟩ := hy
    rw [q'] at hx
    cases hx
    have s2 := step_newV o nT (.tup [.int (i : Nat), .str ⟨#[c]⟩])
    refine ⟨w'.newV T (.tup [.int (i : Nat), .str ⟨#[c]⟩]), rfl, rfl, ok_newV o nT _, s2, .tup (show upd w'.F T _ T = _ from upd_same) (.cons ?_ (.cons (.str _) .nil))⟩
    rw [Nat.zero_add]
    exact .int _
end
section
variable {X : Cx} {E : XK} {e : Expr} {fs : FA} {pos : Pos}
def iES (f : FA) : FA := fun sl st => bnd (f sl st) fun ds st => match ds with
  | [.str x] => ret (enumD (chrD x)) st
  | _ => none
theorem mi_enumS {elts : List Expr} {kk : Nat} {tpos p : Pos} (ha : MA X E [e] fs) (hm : X.mg "enumerate" = none) (hg : Gl X "enumerate" := by rfl) (hs : starEach [e] X.env = [(false, eval e X.env)] := by rfl) : MI X E (.Tuple elts kk tpos) (.Call (.Name "enumerate" p) [e] [] pos) (iES fs) := by
  obtain ⟨t, p, q⟩ := ha.ex
  refine ⟨_, pi_enumS hg hm p hs, fun sl σ w R o s h => ?_⟩
  refine q sl σ w _ o s (post_bnd h fun vs ds w1 o1 s1 r hp => ?_)
  split at hp
  · rename_i x
    obtain ⟨v, rfl, rx⟩ := r.one_inv
    exact ⟨x, by rw [rx.str_inv], post_ret (rp := fun w J ds => SeqIt X.K w J ds) o1 (seq_enumS x) hp⟩
  · exact hp.elim
theorem ens_IES {sl : Sl} {st : Sto} {g : FA} {P : List D → Sto → Prop} (q : Ens (g sl st) fun ds st => ∃ x, ds = [.str x] ∧ P (enumD (chrD x)) st) : Ens (iES g sl st) P := ens_bnd (q.imp fun _ _ ⟨_, e, q⟩ => by subst e; exact ens_ret q)
end
end M

/-! instances of the text's classes as cells: fields, methods, their making -/
namespace M
open PySem PySem.Spec L2
def putFD (f : Str) (d : D) : List (Str × D) → List (Str × D)
  | [] => [(f, d)]
  | (g, x) :: r => if g = f then (g, d) :: r else (g, x) :: putFD f d r
section
variable {K : PySem.W.Frag} {F : Hp} {α : List Addr}
theorem fld_some {f : Str} {d : D} : ∀ {fs : List (Str × V)} {ds : List (Str × D)}, fs.map (·.1) = ds.map (·.1) → Reps K F α (fs.map (·.2)) (ds.map (·.2)) → ds.lookup f = some d → ∃ v, fs.lookup f = some v ∧ Rep K F α v d
  | [], [], _, _, h => by cases h
  | [], _ :: _, e, _, _ => by cases e
  | _ :: _, [], e, _, _ => by cases e
  | (g, v) :: fs, (g', y) :: ds, e, r, h => by
    simp only [List.map_cons, List.cons.injEq] at e
    obtain ⟨e1, e2⟩ := e
    subst e1
    cases r with
    | cons r1 r2 =>
      rw [List.lookup_cons] at h ⊢
      by_cases z : (f == g) = true
      · rw [z] at h ⊢
        cases h
        exact ⟨_, rfl, r1⟩
      · have z : (f == g) = false := by simpa using z
        rw [z] at h ⊢
        exact fld_some e2 r2 h
theorem fld_none {f : Str} : ∀ {fs : List (Str × V)} {ds : List (Str × D)}, fs.map (·.1) = ds.map (·.1) → ds.lookup f = none → fs.lookup f = none
  | [], _, _, _ => rfl
  | (g, v) :: fs, [], e, _ => by cases e
  | (g, v) :: fs, (g', y) :: ds, e, h => by
    simp only [List.map_cons, List.cons.injEq] at e
    obtain ⟨e1, e2⟩ := e
    subst e1
    rw [List.lookup_cons] at h ⊢
    by_cases z : (f == g) = true
    · rw [z] at h; cases h
    · have z : (f == g) = false := by simpa using z
      rw [z] at h ⊢
      exact fld_none e2 h
theorem fld_put {f : Str} {v : V} {d : D} (rv : Rep K F α v d) : ∀ {fs : List (Str × V)} {ds : List (Str × D)}, fs.map (·.1) = ds.map (·.1) → Reps K F α (fs.map (·.2)) (ds.map (·.2)) → (putF f v fs).map (·.1) = (putFD f d ds).map (·.1) ∧ Reps K F α ((putF f v fs).map (·.2)) ((putFD f d ds).map (·.2))
  | [], [], _, _ => ⟨rfl, .cons rv .nil⟩
  | [], _ :: _, e, _ => by cases e
  | _ :: _, [], e, _ => by cases e
  | (g, x) :: fs, (g', y) :: ds, e, r => by
    simp only [List.map_cons, List.cons.injEq] at e
    obtain ⟨e1, e2⟩ := e
    subst e1
    cases r with
    | cons r1 r2 =>
      unfold putF putFD
      by_cases z : g = f
      · rw [if_pos z, if_pos z]
        exact ⟨by simp only [List.map_cons, e2], .cons rv r2⟩
      · rw [if_neg z, if_neg z]
        obtain ⟨q1, q2⟩ := fld_put rv e2 r2
        exact ⟨by simp only [List.map_cons, q1], .cons r1 q2⟩
end
/-- an instance of the class at C: its cell and its fields -/
def insOf (C : Addr) (st : Sto) (x : D) : Option (Nat × List (Str × D)) := match x with
  | .ptr i => match st[i]? with
    | some (some (.ins C' fs)) => if C' = C then some (i, fs) else none
    | _ => none
  | _ => none
theorem insOf_some {C : Addr} {st : Sto} {x : D} {i : Nat} {fs : List (Str × D)} (h : insOf C st x = some (i, fs)) : x = .ptr i ∧ st[i]? = some (some (.ins C fs)) := by
  unfold insOf at h
  split at h
  · rename_i j
    split at h
    · rename_i C' fs' q
      by_cases z : C' = C
      · rw [if_pos z] at h
        cases h
        rw [← z]
        exact ⟨rfl, q⟩
      · rw [if_neg z] at h; cases h
    · cases h
  · cases h
theorem insOf_is {C : Addr} {st : Sto} {i : Nat} {fs : List (Str × D)} (h : st[i]? = some (some (.ins C fs))) : insOf C st (.ptr i) = some (i, fs) := by
  unfold insOf
  simp only [h, if_true]
theorem insOf_rep {K : PySem.W.Frag} {w : Ws} (o : Ok K w) {C : Addr} {v : V} {x : D} {i : Nat} {ds : List (Str × D)} (r : Rep K w.F w.al v x) (h : insOf C w.st x = some (i, ds)) :
    ∃ a dx fs, v = .ref a ∧ w.al[i]? = some a ∧ Live w.st i ∧ w.H a = some (.ins C dx fs) ∧ fs.map (·.1) = ds.map (·.1) ∧ Reps K w.F w.al (fs.map (·.2)) (ds.map (·.2)) := by
  obtain ⟨rfl, q⟩ := insOf_some h
  obtain ⟨a, e, ea, _, ca⟩ := cell_at o r q
  cases ca with
  | ins hx ek rs => exact ⟨a, _, _, e, ea, ⟨_, q⟩, hx, ek, rs⟩
/-- o.f -/
def mFld (C : Addr) (f : Str) (fo : FE) : FE := fun sl st => bnd (fo sl st) fun x st => match insOf C st x with
  | some (_, fs) => lift (fs.lookup f) st
  | none => none
/-- o.f = e -/
def sFldM (C : Addr) (f : Str) (fo fv : FE) : FS := fun sl st => bnd (fv sl st) fun v st => bnd (fo sl st) fun x st => match insOf C st x with
  | some (i, fs) => if fs.length < 1000 then ret (.nx sl) (st.set i (some (.ins C (putFD f v fs)))) else none
  | none => none
/-- o.f op= e -/
def sFldAugM (C : Addr) (f : Str) (fo fv : FE) (g : Sto → D → D → MM D) : FS := fun sl st => bnd (fo sl st) fun x st => match insOf C st x with
  | some (_, fs) => bnd (lift (fs.lookup f) st) fun y st => bnd (fv sl st) fun v st => bnd (g st y v) fun z st => match insOf C st x with
    | some (i, fs) => if fs.length < 1000 then ret (.nx sl) (st.set i (some (.ins C (putFD f z fs)))) else none
    | none => none
  | none => none
/-- o.m(..) -/
def mMeth (C : Addr) (m : Str) (c : List D → Sto → MM D) (fo : FE) (fs : FA) : FE := fun sl st => bnd (fo sl st) fun x st => match insOf C st x with
  | some (_, fd) => if (fd.lookup m).isNone = true then bnd (fs sl st) fun ds st => c (x :: ds) st else none
  | none => none
/-- C(..) -/
def mMake (C : Addr) (c : List D → Sto → MM D) (fs : FA) : FE := fun sl st => bnd (fs sl st) fun ds st => bnd (c (.ptr st.length :: ds) (st ++ [some (.ins C [])])) fun d st2 => match d with
  | .non => ret (.ptr st.length) st2
  | _ => none
section
variable {X : Cx} {E : XK} {K : PySem.W.Frag} {a b c e o i value : Expr} {es rest : List Expr} {fa fb fc fi fv fo : FE} {fs : FA} {pos apos cpos tpos p pos' : Pos} {C : Addr} {f m x : Str}
theorem me_fld (he : ME X E e fa) (c : Cls X.K C) (n : NoAttr X.K C f) (hb : attributeBase e f X.env (eval e X.env) = eval e X.env := by rfl) : ME X E (.Attribute e f pos) (mFld C f fa) := by
  obtain ⟨t, p, q⟩ := he.ex
  refine ⟨_, pe_fld p hb, fun sl σ w Q o s h => ?_⟩
  refine q sl σ w _ o s (post_bnd h fun v d w1 o1 s1 r1 hp => ?_)
  cases g : insOf C w1.st d with
  | none => simp only [g] at hp; exact hp.elim
  | some z =>
    obtain ⟨i, ds⟩ := z
    simp only [g] at hp
    obtain ⟨y, e1, hp⟩ := post_lift hp
    obtain ⟨a, dx, fs, rfl, _, _, hH, ek, rs⟩ := insOf_rep o1 r1 g
    obtain ⟨v, e2, rv⟩ := fld_some ek rs e1
    exact ⟨a, C, dx, fs, v, rfl, hH, c, n, e2, post_ret o1 rv hp⟩
theorem ms_fld (ho : ME X E o fo) (hv : ME X E value fv) (c : Cls X.K C) (n : NoAttr X.K C f) (hs : swapsWith value (some (.Attribute o f pos')) pos.line X.env = pure false := by rfl) : MS X E (.Assign [.Attribute o f pos'] value pos) (sFldM C f fo fv) := by
  obtain ⟨t, p, q⟩ := ho.ex
  obtain ⟨t2, p2, q2⟩ := hv.ex
  refine ⟨_, ps_fld p p2 hs, fun sl σ w D ok s h => ?_⟩
  refine q2 sl σ w _ ok s (post_bndS h fun v d w1 o1 s1 r1 h1 => ?_)
  refine q sl σ w1 _ o1 (s.step s1) (post_bndS h1 fun x dx w2 o2 s2 rx hp => ?_)
  have r1 := r1.mono s2.le s2.pre
  cases g : insOf C w2.st dx with
  | none => simp only [g] at hp; exact hp.elim
  | some z =>
    obtain ⟨i, ds⟩ := z
    simp only [g] at hp
    obtain ⟨hl, hp⟩ := postS_ite hp
    obtain ⟨a, dd, fs, rfl, ea, l, hH, ek, rs⟩ := insOf_rep o2 rx g
    have el : fs.length = ds.length := by have := congrArg List.length ek; simpa using this
    obtain ⟨q1, q2⟩ := fld_put (f := f) r1 ek rs
    have o3 := ok_put (u := .ins C dd (putF f v fs)) (c := .ins C (putFD f d ds)) o2 l ea (.ins upd_same q1 q2)
    have s3 := step_put o2 l ea (.ins C dd (putF f v fs)) (.ins C (putFD f d ds))
    exact ⟨a, C, dd, fs, rfl, hH, c, n, by omega, postS_ret o3 (PostS.step s3 hp) σ (((s.step s1).step s2).step s3)⟩
end
/-! ### calls -/
/-- a method of the text as a caller has it -/
structure CalM (P : Program) (w : World) (K : PySem.W.Frag) (mg : Str → Option Value) (base : Heap) (k : Nat) (C : Addr) (x : Str) (ps : List Str) (m : List D → Sto → MM D) : Prop where
  ex : ∃ (f : Addr) (fd : FuncData), FnOk P w K mg base CX0 k f fd ps (spM K ps.length m) ∧ Meth K C x f ∧ Binds K fd ps []
/-- .. that may raise -/
structure CalMX (P : Program) (w : World) (K : PySem.W.Frag) (mg : Str → Option Value) (base : Heap) (k : Nat) (C : Addr) (x : Str) (ps : List Str) (m : List D → Sto → MM D) : Prop where
  ex : ∃ (f : Addr) (fd : FuncData), FnOk P w K mg base (L2.CX P w) k f fd ps (spM K ps.length m) ∧ Meth K C x f ∧ Binds K fd ps []
/-- __init__ -/
structure CalI (P : Program) (w : World) (K : PySem.W.Frag) (mg : Str → Option Value) (base : Heap) (k : Nat) (C : Addr) (x : Str) (ps : List Str) (m : List D → Sto → MM D) : Prop where
  ex : ∃ (f : Addr) (fd : FuncData), FnOk P w K mg base CX0 k f fd ps (spM K ps.length m) ∧ Mk K C f ∧ mg x = some (.ref C) ∧ Binds K fd ps []
section
variable {X : Cx} {E : XK} {K : PySem.W.Frag} {a b c e o i value : Expr} {es rest : List Expr} {fa fb fc fi fv fo : FE} {fs : FA} {pos apos cpos tpos p pos' : Pos} {C : Addr} {f m x : Str} {k n : Nat} {ps : List Str} {md c : List D → Sto → MM D}
theorem ref_meth {to : TE} {ts : TA} {E0 : XK} (ho : RefE K E to fo) (ha : RefA K E ts fs) (hc : CallF K E n md c) : RefE K E (tMeth C m (spM K n md) [] E to ts) (mMeth C m c fo fs) := fun sl σ w Q ok s h => by
  refine ho sl σ w _ ok s (post_bnd h fun v d w1 o1 s1 r1 hp => ?_)
  cases g : insOf C w1.st d with
  | none => simp only [g] at hp; exact hp.elim
  | some z =>
    obtain ⟨i, ds⟩ := z
    simp only [g] at hp
    obtain ⟨hn, hp⟩ := post_ite hp
    obtain ⟨a, dx, gs, rfl, _, _, hH, ek, rs⟩ := insOf_rep o1 r1 g
    refine ⟨a, dx, gs, rfl, hH, fld_none ek (Option.isNone_iff_eq_none.mp hn), ?_⟩
    refine ha sl σ w1 _ o1 (s.step s1) (post_bnd hp fun vs ds w2 o2 s2 r2 h2 => ?_)
    rw [List.append_nil]
    exact hc w2 _ _ Q o2 (.cons (r1.mono s2.le s2.pre) r2) h2
theorem me_meth {pl : Sem Bool} (ho : ME X E o fo) (cl : Cls X.K C) (Mc : CalM X.prog X.w X.K X.mg X.base k C m ps md) (hc : CallF X.K E ps.length md c) (hr : Room k X.A) (ha : MA X E (e :: es) fs)
    (hst : starEach (e :: es) X.env = (false, eval e X.env) :: starEach es X.env := by rfl) (hpl : (backTo pos (starEach es X.env)).any (·.1) = false := by rfl)
    (ht : eval (.Call (.Attribute o m apos) (e :: es) [] pos) X.env = (do
      let ov ← eval o X.env
      standAt apos.atName
      let (f, first) ← holding [ov] (getMethod ov m pl)
      callWith pos f first (backTo pos (starEach (e :: es) X.env)) (backToKw pos (keywordEach [] X.env))) := by rfl) : ME X E (.Call (.Attribute o m apos) (e :: es) [] pos) (mMeth C m c fo fs) := by
  obtain ⟨f, fd, F, hm, hb⟩ := Mc.ex
  obtain ⟨t, p, q⟩ := ho.ex
  obtain ⟨t', p', q'⟩ := ha.ex
  exact ⟨_, pe_meth (pl := pl) p cl hm F hr hb .nil (fun _ _ _ _ _ _ _ h => h.elim) p' hst hpl ht, ref_meth (E0 := E) q q' hc⟩
theorem me_meth0 {pl : Sem Bool} (ho : ME X E o fo) (cl : Cls X.K C) (Mc : CalM X.prog X.w X.K X.mg X.base k C m ps md) (hc : CallF X.K E ps.length md c) (hr : Room k X.A)
    (ht : eval (.Call (.Attribute o m apos) [] [] pos) X.env = (do
      let ov ← eval o X.env
      standAt apos.atName
      let (f, first) ← holding [ov] (getMethod ov m pl)
      callWith pos f first (backTo pos (starEach [] X.env)) (backToKw pos (keywordEach [] X.env))) := by rfl) : ME X E (.Call (.Attribute o m apos) [] [] pos) (mMeth C m c fo mNil) := by
  obtain ⟨f, fd, F, hm, hb⟩ := Mc.ex
  obtain ⟨t, p, q⟩ := ho.ex
  exact ⟨_, pe_meth0 (pl := pl) p cl hm F hr hb .nil (fun _ _ _ _ _ _ _ h => h.elim) ht, ref_meth (E0 := E) q (fun sl σ w Q o s h => h [] w rfl o (Step.refl w) .nil) hc⟩
theorem me_methX {pl : Sem Bool} (ho : ME X E o fo) (cl : Cls X.K C) (Mc : CalMX X.prog X.w X.K X.mg X.base k C m ps md) (tk : Takes X fun c d _ H => E c d H) (hc : CallF X.K E ps.length md c) (hr : Room k X.A) (ha : MA X E (e :: es) fs)
    (hst : starEach (e :: es) X.env = (false, eval e X.env) :: starEach es X.env := by rfl) (hpl : (backTo pos (starEach es X.env)).any (·.1) = false := by rfl)
    (ht : eval (.Call (.Attribute o m apos) (e :: es) [] pos) X.env = (do
      let ov ← eval o X.env
      standAt apos.atName
      let (f, first) ← holding [ov] (getMethod ov m pl)
      callWith pos f first (backTo pos (starEach (e :: es) X.env)) (backToKw pos (keywordEach [] X.env))) := by rfl) : ME X E (.Call (.Attribute o m apos) (e :: es) [] pos) (mMeth C m c fo fs) := by
  obtain ⟨f, fd, F, hm, hb⟩ := Mc.ex
  obtain ⟨t, p, q⟩ := ho.ex
  obtain ⟨t', p', q'⟩ := ha.ex
  exact ⟨_, pe_meth (pl := pl) p cl hm F hr hb .nil (fun pins σ H s e s' I h => passes_call tk (fun _ _ _ _ h => h) pins σ H s e s' I h) p' hst hpl ht, ref_meth (E0 := E) q q' hc⟩
theorem me_methX0 {pl : Sem Bool} (ho : ME X E o fo) (cl : Cls X.K C) (Mc : CalMX X.prog X.w X.K X.mg X.base k C m ps md) (tk : Takes X fun c d _ H => E c d H) (hc : CallF X.K E ps.length md c) (hr : Room k X.A)
    (ht : eval (.Call (.Attribute o m apos) [] [] pos) X.env = (do
      let ov ← eval o X.env
      standAt apos.atName
      let (f, first) ← holding [ov] (getMethod ov m pl)
      callWith pos f first (backTo pos (starEach [] X.env)) (backToKw pos (keywordEach [] X.env))) := by rfl) : ME X E (.Call (.Attribute o m apos) [] [] pos) (mMeth C m c fo mNil) := by
  obtain ⟨f, fd, F, hm, hb⟩ := Mc.ex
  obtain ⟨t, p, q⟩ := ho.ex
  exact ⟨_, pe_meth0 (pl := pl) p cl hm F hr hb .nil (fun pins σ H s e s' I h => passes_call tk (fun _ _ _ _ h => h) pins σ H s e s' I h) ht, ref_meth (E0 := E) q (fun sl σ w Q o s h => h [] w rfl o (Step.refl w) .nil) hc⟩
theorem step_more {w : Ws} {a : Addr} {o : HO} (h : w.H a = none) : Step w (w.more a o) := by
  refine ⟨Pre.refl _, Le.refl _, fun b x e _ => ?_, fun b e _ _ => rfl, fun b e => ?_, fun b z => .inl z⟩
  · show upd w.H a o b = some x
    rw [upd_ne (ne_of_none e h)]; exact e
  · show upd w.H a o b ≠ none
    by_cases z : b = a
    · subst z; rw [upd_same]; exact Option.some_ne_none _
    · rw [upd_ne z]; exact e
theorem ref_make {ts : TA} (ha : RefA K E ts fs) (hc : CallF K E n md c) : RefE K E (tMake C (spM K n md) [] E ts) (mMake C c fs) := fun sl σ w Q ok s h => by
  refine ha sl σ w _ ok s (post_bnd h fun vs ds w1 o1 s1 r1 hp => ?_)
  intro x dx hx hdx ne
  rw [List.append_nil]
  have o2 := ok_more (o := .own x) o1 (free_F o1 hdx) (free_own o1 hdx)
  have s2 := step_more (w := w1) (o := .own x) hdx
  have hx2 : (w1.more dx (.own x)).H x = none := by
    show upd w1.H dx _ x = none
    rw [upd_ne fun z => ne z.symm]; exact hx
  have o3 := ok_newC (u := .ins C dx []) (c := .ins C []) o2 hx2 (.ins upd_same rfl .nil)
  have s3 := step_newC o2 hx2 (.ins C dx []) (.ins C [])
  refine hc ((w1.more dx (.own x)).newC x (.ins C dx []) (.ins C [])) _ _ _ o3 (.cons (ptr_new o2 _ _ _) ((r1.mono s2.le s2.pre).mono s3.le s3.pre)) ?_
  refine post_bnd (Post.step (s2.trans s3) hp) fun v d w4 o4 s4 r4 h4 => ?_
  cases d with
  | non =>
    refine ⟨r4.non_inv, ?_⟩
    exact post_ret o4 ((ptr_new o2 x (.ins C dx []) (.ins C [])).mono s4.le s4.pre) h4
  | _ => exact h4.elim
theorem me_make (Mc : CalI X.prog X.w X.K X.mg X.base k C x ps md) (hc : CallF X.K E ps.length md c) (hr : Room (k + 1) X.A) (ha : MA X E (e :: es) fs) (hg : Gl X x := by rfl) (hdb : (x == ("__debug__" : Str)) = false := by decide)
    (he : starEach (e :: es) X.env = (false, eval e X.env) :: starEach es X.env := by rfl) (hpl : (backTo pos (starEach es X.env)).any (·.1) = false := by rfl) : ME X E (.Call (.Name x p) (e :: es) [] pos) (mMake C c fs) := by
  obtain ⟨f, fd, F, hm, h2, hb⟩ := Mc.ex
  obtain ⟨t', p', q'⟩ := ha.ex
  exact ⟨_, pe_make hm F hr hg h2 hb .nil (fun _ _ _ _ _ _ _ h => h.elim) p' hdb he hpl, ref_make q' hc⟩
end
/-! ### runs -/
section
variable {Q : D → Sto → Prop} {P : List D → Sto → Prop} {N : Sl → Sto → Prop} {R : D → Sto → Prop} {sl : Sl} {st : Sto} {C : Addr} {f : Str} {fo fv : FE} {fs : FA} {c : List D → Sto → MM D} {k : Nat}
theorem ens_FLD (q : Ens (fo sl st) fun x st => ∃ i fs d, x = .ptr i ∧ st[i]? = some (some (.ins C fs)) ∧ fs.lookup f = some d ∧ Q d st) : Ens (mFld C f fo sl st) Q := ens_bnd (q.imp fun x st ⟨i, fs, d, e1, e2, e3, q⟩ => by
  subst e1
  simp only [insOf_is e2]
  exact ens_lift e3 q)
theorem ens_SFLD (q : Ens (fv sl st) fun v st => Ens (fo sl st) fun x st => ∃ i fs, x = .ptr i ∧ st[i]? = some (some (.ins C fs)) ∧ fs.length < 1000 ∧ N sl (st.set i (some (.ins C (putFD f v fs))))) : EnsS (sFldM C f fo fv sl st) N R := ens_bnd (q.imp fun v st q => ens_bnd (q.imp fun x st ⟨i, fs, e1, e2, e3, q⟩ => by
  subst e1
  simp only [insOf_is e2]
  exact ens_ite e3 (ens_ret q)))
theorem ens_METH (q : Ens (fo sl st) fun x st => ∃ i gs, x = .ptr i ∧ st[i]? = some (some (.ins C gs)) ∧ gs.lookup f = none ∧ Ens (fs sl st) fun ds st => Ens (c (.ptr i :: ds) st) Q) : Ens (mMeth C f c fo fs sl st) Q := ens_bnd (q.imp fun x st ⟨i, gs, e1, e2, e3, q⟩ => by
  subst e1
  simp only [insOf_is e2]
  exact ens_ite (by rw [e3]; rfl) (ens_bnd q))
theorem ens_MAKE (q : Ens (fs sl st) fun ds st => Ens (c (.ptr st.length :: ds) (st ++ [some (.ins C [])])) fun d st2 => d = .non ∧ Q (.ptr st.length) st2) : Ens (mMake C c fs sl st) Q := ens_bnd (q.imp fun ds st q => ens_bnd (q.imp fun d st2 ⟨e, q⟩ => by subst e; exact ens_ret q))
theorem ens_callA {m : List D → Sto → MM D} {ds : List D} (hl : ds.length = k) (q : Ens (m ds st) Q) : Ens (callA k m ds st) Q := ens_ite hl q
end
end M

/-! a list unpacked into names; xs[::-1]; replace of written texts -/
namespace M
open PySem PySem.Spec L2
section
variable {X : Cx} {E : XK} {K : PySem.W.Frag} {a b c e o : Expr} {es rest : List Expr} {fa fb fc : FE} {fs : FA} {pos apos p : Pos}
def gTpL (n : Nat) (r : FGs) : FG := fun d sl st => match lstOf st d with
  | some ds => if ds.length = n then r ds sl st else none
  | none => none
theorem mg_unl {k : Nat} {gr : FGs} {n : Nat} (hc : X.calm = true) (h : MGs X E es gr) (hn : (assignEach es X.env).length = n := by rfl) (hst : (assignEach es X.env).findIdx? (·.1) = none := by rfl) : MG X E (.Tuple es k pos) (gTpL n gr) := by
  obtain ⟨t, q, r⟩ := h.ex
  refine ⟨_, pg_unl hc q hn hst, fun v d sl σ w Q o rv s hq => ?_⟩
  have hq : Post X.K E _ w (match lstOf w.st d with
    | some ds => if ds.length = n then gr ds sl w.st else none
    | none => none) _ := hq
  cases g : lstOf w.st d with
  | none => rw [g] at hq; exact hq.elim
  | some ds =>
    rw [g] at hq
    obtain ⟨hl, hq⟩ := post_ite (p := ds.length = n) hq
    obtain ⟨a, xs, rfl, f, rs⟩ := lstOf_rep o rv g
    exact ⟨a, xs, rfl, f, by rw [rs.length]; exact hl, r xs ds sl σ w Q o rs s hq⟩
def mRevL (c : Bool) (f : FE) : FE := fun sl st => bnd (f sl st) fun x st => match lstOf st x with
  | some ds => mkL c ds.reverse st
  | none => none
theorem me_revL (c : Bool) {k : Nat} {p1 p2 p3 : Pos} (he : ME X E e fa) : ME X E (.Subscript e (.Slice none none (some (.UnaryOp .USub (.Constant (.int 1) k p1) p2)) p3) pos) (mRevL c fa) := by
  obtain ⟨t, p, q⟩ := he.ex
  refine ⟨_, pe_revL p, fun sl σ w Q o s h => ?_⟩
  refine q sl σ w _ o s (post_bnd h fun v d w1 o1 s1 r1 hp => ?_)
  cases g : lstOf w1.st d with
  | none => rw [g] at hp; exact hp.elim
  | some ds =>
    rw [g] at hp
    obtain ⟨a, xs, rfl, hx, rs⟩ := lstOf_rep o1 r1 g
    exact ⟨a, xs, rfl, hx, fun p np => post_mkL o1 hp np rs.reverse⟩
/-! behind a written number a token is out -/
def PEt (X : Cx) (e : Expr) (te : TE) : Prop := ∀ (pins : List (Addr × Obj)) (s : Shared) (σ : L2.St) (H : Hp) (Q : VK), L2.Inv X pins σ H s → te σ H Q → wpAny (model X.prog X.w) X.A (eval e X.env) (fun v s' => 1 ≤ s'.toks ∧ EP X pins σ Q v s') X.xe s
theorem pet_int {i : Int} {j : Nat} : PEt X (.Constant (.int i) j pos) (tC (.int i)) := fun _ s _ H _ I h => wpAny_Constant_int ⟨by show 1 ≤ s.toks + 1; omega, .int i, H, I.tok _, ⟨_, rfl⟩, h⟩
theorem pet_opR {op : Operator} {r : R2} {ta tb : TE} (ho : OpR X (binaryOp op) r) (ha : PE X a ta) (hb : PEt X b tb) : PEt X (.BinOp a op b pos) (tOp r ta tb) := fun pins s σ H Q I h => by
  refine wpAny_BinOp (L2.thn (ha.run pins s σ H _ I h) fun v s1 ⟨x, H1, I1, r1, q1⟩ => ?_)
  refine wpAny_mono (hb pins s1 σ H1 _ I1 q1) (fun u s2 ⟨z, y, H2, I2, r2, q2⟩ => ?_) fun _ _ z => z
  exact wpAny_mono (wpAny_toks_of z (ho pins s2 σ H2 x y v u Q I2 r1 r2 q2)) (fun _ _ z => z) fun _ _ z => z.2
theorem pet_ixR {r : R2} {ta tb : TE} (hr : IxR X r) (ha : PE X a ta) (hb : PEt X b tb) (hs : PlainIx b) : PEt X (.Subscript a b pos) (tOp r ta tb) := fun pins s σ H Q I h => by
  refine PyProof.Rows.Subscript_ (L2.thn (ha.run pins s σ H _ I h) fun v s1 ⟨x, H1, I1, r1, q1⟩ => ?_)
  refine wpAny_mono (hb pins s1 σ H1 _ I1 q1) (fun u s2 ⟨z, y, H2, I2, r2, q2⟩ => ?_) fun _ _ z => z
  exact wpAny_mono (wpAny_toks_of z (hr a b pins s2 σ H2 x y v u Q I2 r1 r2 q2 (hs _ _))) (fun _ _ z => z) fun _ _ z => z.2
theorem pe_replK {to : TE} {y z : Str} {j k : Nat} {c0 c1 : Pos} (ho : PEt X o to) (hyz : (y == z) = false)
    (hst : starEach [.Constant (.str y) j c0, .Constant (.str z) k c1] X.env = [(false, eval (.Constant (.str y) j c0) X.env), (false, eval (.Constant (.str z) k c1) X.env)])
    (hbase : attributeBase o "replace" X.env (eval o X.env) = eval o X.env) (hline : (apos.endLine == pos.line) = true) :
    PE X (.Call (.Attribute o "replace" apos) [.Constant (.str y) j c0, .Constant (.str z) k c1] [] pos) (CwR.tReplC to y z) := by
  refine ⟨fun pins s σ H Q I h => ?_⟩
  refine PySem.Call_method2 hbase hst hline (wpAny_mono (ho pins s σ H _ I h) (fun v s1 q => ?_) fun _ _ z => z)
  obtain ⟨hk, v', H1, I1, r1, x, e1, hb, q⟩ := q
  subst e1
  obtain ⟨tx, e2⟩ := r1
  subst e2
  refine ⟨"str", _, PySem.F.plainAttrs_str, PySem.F.slot_str_replace, PySem.F.type_str_replace, typeIs_str _ _ _, (fun _ e => nomatch e), Calls.callWith_builtin rfl (Calls.evalArgs_plain (Calls.spliced_cons ?_))⟩
  refine Calls.Constant_str (Calls.spliced_cons (Calls.Constant_str (Calls.spliced_nil ?_)))
  exact PySem.SC.replace (by show s1.toks ≠ 0; omega) (by show s1.toks + 1 ≠ 0; omega) (by show s1.toks ≠ s1.toks + 1; omega) hyz hb fun t' k => ⟨.str (Txt.replace x y z), H1, I1.tok k, ⟨t', rfl⟩, q⟩
def gIxL : Sto → D → D → MM D := fun st x y => match y with
  | .int i => match lstOf st x with
    | some ds => lift (atI ds i) st
    | none => none
  | _ => none
theorem rf_ixL : Rf2 K E (rIxL K) gIxL := fun x y dx dy w Q o rx ry hp => by
  cases dy with
  | int i =>
    have hp : Post K E (rD K) w (match lstOf w.st dx with
      | some ds => lift (L2.atI ds i) w.st
      | none => none) Q := hp
    cases h1 : lstOf w.st dx with
    | none => rw [h1] at hp; exact hp.elim
    | some ds =>
      rw [h1] at hp
      obtain ⟨d, ed, hp⟩ := post_lift hp
      obtain ⟨p, xs, rfl, hx, rs⟩ := lstOf_rep o rx h1
      obtain ⟨v, ev, rv⟩ := rs.atI ed
      exact ⟨p, xs, i, v, rfl, ry.int_inv, hx, ev, post_ret o rv hp⟩
  | _ => exact hp.elim
/-- a text's replace of written texts -/
def mRepl (y z : Str) (f : FE) : FE := fun sl st => bnd (f sl st) fun v st => match v with
  | .str x => if x.length + (x.length + 1) * z.length ≤ 16777216 then ret (.str (Txt.replace x y z)) st else none
  | _ => none
/-- xs[l - 3].replace("..", "..") -/
theorem me_replIx {l : Expr} {fl : FE} {i : Int} {y z : Str} {j j1 k : Nat} {c0 c1 c2 p1 p2 : Pos} (ha : ME X E a fa) (hl : ME X E l fl) (hyz : (y == z) = false := by decide) (hs : PlainIx (.BinOp l .Sub (.Constant (.int i) j1 c2) p1) := by exact fun _ _ => rfl)
    (hst : starEach [.Constant (.str y) j c0, .Constant (.str z) k c1] X.env = [(false, eval (.Constant (.str y) j c0) X.env), (false, eval (.Constant (.str z) k c1) X.env)] := by rfl)
    (hbase : attributeBase (.Subscript a (.BinOp l .Sub (.Constant (.int i) j1 c2) p1) p2) "replace" X.env (eval (.Subscript a (.BinOp l .Sub (.Constant (.int i) j1 c2) p1) p2) X.env) = eval (.Subscript a (.BinOp l .Sub (.Constant (.int i) j1 c2) p1) p2) X.env := by rfl) (hline : (apos.endLine == pos.line) = true := by rfl) :
    ME X E (.Call (.Attribute (.Subscript a (.BinOp l .Sub (.Constant (.int i) j1 c2) p1) p2) "replace" apos) [.Constant (.str y) j c0, .Constant (.str z) k c1] [] pos) (mRepl y z (mBin gIxL fa (mBin gSub fl (mC (.int i))))) := by
  obtain ⟨ta, p, q⟩ := ha.ex
  obtain ⟨tl, p', q'⟩ := hl.ex
  refine ⟨_, pe_replK (pet_ixR ix_list p (pet_opR op_sub p' pet_int) hs) hyz hst hbase hline, fun sl σ w Q o s h => ?_⟩
  refine ref_bin rf_ixL q (ref_bin (rf_I0 fun i j F α => .int _) q' (ref_c fun _ _ => .int i)) sl σ w _ o s (post_bnd h fun v d w1 o1 s1 r1 hp => ?_)
  cases d with
  | str x =>
    obtain ⟨hb, hp⟩ := post_ite hp
    exact ⟨x, r1.str_inv, hb, post_ret o1 (.str _) hp⟩
  | _ => exact hp.elim
end
/-! ### [x] * n -/
section
variable {X : Cx} {E : XK} {K : PySem.W.Frag} {a b : Expr} {fa fb : FE} {pos : Pos}
def gRep (c : Bool) : Sto → D → D → MM D := fun st x y => match lstOn st x, y with
  | some ds, .int k => if -(2 ^ 63) ≤ k ∧ k < 2 ^ 63 ∧ ds.length * k.toNat ≤ sizeLine then mkL c (List.replicate k.toNat ds).flatten st else none
  | _, _ => none
theorem Reps.rep {F : Hp} {α : List Addr} {vs : List V} {ds : List D} (r : Reps K F α vs ds) : ∀ n : Nat, Reps K F α (List.replicate n vs).flatten (List.replicate n ds).flatten
  | 0 => .nil
  | n + 1 => by
    rw [List.replicate_succ, List.replicate_succ, List.flatten_cons, List.flatten_cons]
    exact r.append (Reps.rep r n)
theorem me_rep (c : Bool) (ha : ME X E a fa) (hb : ME X E b fb) : ME X E (.BinOp a .Mult b pos) (mBin (gRep c) fa fb) := me_bin op_rep (fun x y dx dy w Q o rx ry hp => by
  unfold gRep at hp
  cases h1 : lstOn w.st dx with
  | none => rw [h1] at hp; exact hp.elim
  | some ds =>
    rw [h1] at hp
    cases dy with
    | int k =>
      obtain ⟨⟨k1, k2, k3⟩, hp⟩ := post_ite hp
      obtain ⟨p, xs, rfl, hx, rs⟩ := lstOn_rep o rx h1
      exact ⟨p, k, xs, rfl, ry.int_inv, hx, k1, k2, by rw [rs.length]; exact k3, fun l nl => post_mkL o hp nl (rs.rep _)⟩
    | _ => exact hp.elim) ha hb
end
/-! ### runs -/
section
variable {Q : D → Sto → Prop} {sl : Sl} {st : Sto} {f : FE}
theorem ens_REV {c : Bool} (q : Ens (f sl st) fun x st => ∃ ds, lstOf st x = some ds ∧ Ens (mkL c ds.reverse st) Q) : Ens (mRevL c f sl st) Q := ens_bnd (q.imp fun x st ⟨ds, e, q⟩ => by simp only [e]; exact q)
theorem ens_REPL {y z : Str} (q : Ens (f sl st) fun v st => ∃ x, v = .str x ∧ x.length + (x.length + 1) * z.length ≤ 16777216 ∧ Q (.str (Txt.replace x y z)) st) : Ens (mRepl y z f sl st) Q := ens_bnd (q.imp fun v st ⟨x, e, h, q⟩ => by subst e; exact ens_ite h (ens_ret q))
theorem ens_rep {c : Bool} {x : D} {ds : List D} {k : Int} (e : lstOn st x = some ds) (h : 0 ≤ k ∧ k ≤ 100000 ∧ ds.length ≤ 10) (q : Ens (mkL c (List.replicate k.toNat ds).flatten st) Q) : Ens (gRep c st x (.int k)) Q := by
  show Ens (match lstOn st x, (D.int k) with
    | some ds, .int k => if -(2 ^ 63) ≤ k ∧ k < 2 ^ 63 ∧ ds.length * k.toNat ≤ sizeLine then mkL c (List.replicate k.toNat ds).flatten st else none
    | _, _ => none) Q
  rw [e]
  refine ens_ite ⟨by omega, by omega, ?_⟩ q
  have : ds.length * k.toNat ≤ 10 * 100000 := Nat.mul_le_mul (by omega) (by omega)
  unfold PySem.sizeLine; omega
theorem en_gTpL {N : Sl → Sto → Prop} {n : Nat} {r : FGs} {d : D} {ds : List D} (e : lstOf st d = some ds) (h : ds.length = n) (q : Ens (r ds sl st) N) : Ens (gTpL n r d sl st) N := by
  show Ens (match lstOf st d with
    | some ds => if ds.length = n then r ds sl st else none
    | none => none) N
  rw [e]
  exact ens_ite h q
end
end M

/-! enumerate over a list or the empty tuple -/
namespace M
open PySem PySem.Spec L2
set_option maxHeartbeats 1000000 in
theorem meets_enum1 {v : Value} {o : Obj} {H : Heap → Prop} (B : Begins v o H) :
    Meets (Builtin.«enumerate.__new__» ⟨[.type "enumerate", v], []⟩) (fun _ R s => H s.heap ∧
      R (.ok (.ret (.ref (s.heap.push o).objs.size))) { s with heap := (s.heap.push o).push { cls := .type "enumerate", data := .fields #[.none, .bool false, .ref s.heap.objs.size, rawInt 0, .none, .none] } }) :=
  .of_wp fun prog w A R s h => by
    obtain ⟨hp, g, d, tk, os⟩ := s; obtain ⟨h1, h⟩ := h
    have hsub := sub_enumerate
    have q1 : ∀ {A' : Around} {E : Value → Shared → Prop} {Q : Value → Shared → Prop}, Q (.ref hp.objs.size) ⟨hp.push o, g, d, tk, os⟩ → wpAny (model prog w) A' (pyIter v) Q E ⟨hp, g, d, tk, os⟩ :=
      fun q => B.iter prog w _ _ ⟨hp, g, d, tk, os⟩ _ h1 q
    wp_walk using q1
    refine wpAny_stack_any fun st => wpAny_pure ?_
    split
    · rename_i c _ _ _ _ _
      cases (c == Value.type "enumerate")
      · wp_walk using q1
        exact ⟨_, rfl, h⟩
      · wp_walk using q1
        exact ⟨_, rfl, h⟩
    · wp_walk using q1
      exact ⟨_, rfl, h⟩
section
variable {prog : Program} {w : World} {A : Around} {E : Value → Shared → Prop} {s : Shared}
theorem call_enum1 {v : Value} {o : Obj} {H : Heap → Prop} {Q : Value → Shared → Prop} (B : Begins v o H) (h1 : H s.heap)
    (h : ∀ h', IsEnum h' (s.heap.objs.size + 1) s.heap.objs.size 0 .none → h'.get? s.heap.objs.size = some o → h'.objs.size = s.heap.objs.size + 2 →
      (∀ b o, s.heap.get? b = some o → h'.get? b = some o) → Q (.ref (s.heap.objs.size + 1)) { s with heap := h' }) :
    wpAny (model prog w) A (call (.type "enumerate") [v]) Q E s := by
  refine callType_new F.called_enumerate (by decide) (F.typeCall_enumerate_1 _) (F.newCall_enumerate_1 _) (fun obj => F.args_object_init_2 obj _) F.entry_enumerate_new
    (meets_enum1 B) ⟨h1, ?_⟩
  have hz : (s.heap.push o).objs.size = s.heap.objs.size + 1 := Heap.size_push ..
  show _ ∧ _
  rw [hz]
  have he : IsEnum ((s.heap.push o).push { cls := .type "enumerate", data := .fields #[.none, .bool false, .ref s.heap.objs.size, rawInt 0, .none, .none] }) (s.heap.objs.size + 1) s.heap.objs.size 0 .none := by
    have := Heap.get?_push_size (s.heap.push o) (o := { cls := .type "enumerate", data := .fields #[.none, .bool false, .ref s.heap.objs.size, rawInt 0, .none, .none] }) rfl
    rw [hz] at this; exact this
  refine ⟨⟨_, he, rfl⟩, h _ he (Heap.get?_push_of_some _ (Heap.get?_push_size _ B.free)) (by rw [Heap.size_push, hz]) fun b o x => Heap.get?_push_of_some _ (Heap.get?_push_of_some _ x)⟩
end
/-- nothing to walk: the empty tuple at t -/
def It0 (K : PySem.W.Frag) (t : Addr) : It := ⟨fun _ _ => False, fun _ _ _ _ => False, fun i H => i = 0 ∧ SqT K H t []⟩
theorem turn_enum0 {P : Program} {w : World} {K : PySem.W.Frag} {elts : List Expr} {kk : Nat} {tpos : Pos} (t e it : Addr) :
    Turn P w K (.Tuple elts kk tpos) (It0 K t) [e, it] e (fun i h => (∃ old, IsEnum h e it ((i : Nat) : Int) old) ∧ h.IsTupleIter it t i ∧ e ≠ it) where
  mem := by simp
  obj := by
    rintro i h ⟨⟨old, he⟩, ⟨o, ho, hc, hd⟩, _⟩ b hb
    simp only [List.mem_cons, List.not_mem_nil, or_false] at hb
    rcases hb with rfl | rfl
    · exact ⟨_, he, fun v q => nomatch q⟩
    · exact ⟨o, ho, fun v q => by rw [hd] at q; cases q⟩
  keep := by
    rintro i h h' ⟨⟨old, he⟩, ⟨o, ho, r⟩, hne⟩ k
    exact ⟨⟨old, k e (by simp) _ he⟩, ⟨o, k it (by simp) o ho, r⟩, hne⟩
  item := by
    intro X hP hw hK hc i pins s σ H E I hf st hg
    exact hg.elim
  done := by
    intro X hP hw hK hc i pins s σ H E I hf st hg
    subst hP hw hK
    obtain ⟨⟨old, he⟩, hit, hne⟩ := st
    obtain ⟨f0, f1, f2, f3, f4, f5⟩ := hf it (by simp)
    obtain ⟨hi, hq⟩ := hg
    subst hi
    obtain ⟨its, rv, ht, _⟩ := I.tuple hq
    cases rv
    have n2 : t ≠ it := by
      rintro rfl
      obtain ⟨o, e1, c1, _⟩ := ht
      obtain ⟨o', e2, c2, _⟩ := hit
      rw [e1] at e2
      cases e2
      rw [c1] at c2
      exact absurd c2 (by decide)
    have D := Draws.tuple (prog := X.prog) (w := X.w) (A := X.A.in1) (I.ok.hd hc) it t n2 #[]
    exact wpAny_pyNext_enum_endD D he ⟨hit, ht⟩ fun h' eb => ⟨rfl, I.turned (t' := s.toks) (fun b o hb q => eb b o hb q) f0 f1 f3 f4 f5⟩
  self := by
    rintro A i s Q E ⟨⟨_, he⟩, _⟩ h
    exact wpAny_pyIter_enum he h
def iEnum0 (K : PySem.W.Frag) (ta : TA) : TI := fun σ H R => ta σ H fun vs H1 => ∃ t, vs = [.ref t] ∧ SqT K H1 t [] ∧ R (It0 K t) H1
theorem pi_enum0 {X : Cx} {e : Expr} {ta : TA} {p pos tpos : Pos} {elts : List Expr} {kk : Nat} (hg : Gl X "enumerate") (hm : X.mg "enumerate" = none) (ha : PA X [e] ta) (hs : starEach [e] X.env = [(false, eval e X.env)] := by rfl) :
    PI X (.Tuple elts kk tpos) (.Call (.Name "enumerate" p) [e] [] pos) (iEnum0 X.K ta) := by
  refine ⟨fun pins s σ H R I h => ?_⟩
  refine PyProof.Rows.Call_ (ld_blt I hg hm PyProof.Rows.boot_enumerate (PyProof.Rows.callWith_type1 (L2.thn (ha.run pos pins s σ H _ I h) fun us s1 got => ?_) hs rfl))
  obtain ⟨vs, H1, I1, r1, t, rfl, hq, q⟩ := got
  cases r1 with
  | cons r rr =>
    cases rr
    cases r
    obtain ⟨its, rv, ht, _⟩ := I1.tuple hq
    cases rv
    refine call_enum1 (begins_tuple t #[]) ht fun h' he hit hsz hk => wpAny_pyIter_enum he ?_
    have I2 : L2.Inv X pins σ H1 { s1 with heap := h' } := I1.kept (t' := s1.toks) hk
    refine ⟨s1.heap.objs.size + 1, [s1.heap.objs.size + 1, s1.heap.objs.size], _, _, H1, rfl, I2, turn_enum0 t (s1.heap.objs.size + 1) s1.heap.objs.size, ⟨⟨.none, he⟩, ⟨_, hit, rfl, rfl⟩, Nat.succ_ne_self _⟩, fun b hb => ?_, q⟩
    have lo : s1.heap.objs.size ≤ b := by
      simp only [List.mem_cons, List.not_mem_nil, or_false] at hb
      rcases hb with rfl | rfl
      · exact Nat.le_succ _
      · exact Nat.le_refl _
    exact I1.fpOk lo (I1.hok.fresh lo)
theorem seq_enum0 {K : PySem.W.Frag} {w : Ws} {t : Addr} (h : w.F t = some (.tup [])) : SeqIt K w (It0 K t) [] := fun w' o s => ⟨⟨rfl, SqT.of (o.sub _ _ (s.le.tup _ _ h))⟩, fun i d e => by cases e⟩
section
variable {X : Cx} {E : XK} {e : Expr} {fs : FA} {pos : Pos}
/-- a list, or the empty tuple -/
def iE2 (f : FA) : FA := fun sl st => bnd (f sl st) fun ds st => match ds with
  | [.tup []] => ret [] st
  | [x] => match seqOf x with
    | some ds => ret (enumD ds) st
    | none => none
  | _ => none
theorem mi_enum2 {elts : List Expr} {kk : Nat} {tpos p : Pos} (ha : MA X E [e] fs) (hm : X.mg "enumerate" = none) (hg : Gl X "enumerate" := by rfl) (hs : starEach [e] X.env = [(false, eval e X.env)] := by rfl) : MI X E (.Tuple elts kk tpos) (.Call (.Name "enumerate" p) [e] [] pos) (iE2 fs) := by
  obtain ⟨t1, p1, q1⟩ := (mi_enum (elts := elts) (kk := kk) (tpos := tpos) (p := p) (pos := pos) ha hm hg hs).ex
  obtain ⟨t, p, q⟩ := ha.ex
  refine ⟨_, PI.or p1 (pi_enum0 hg hm p hs), fun sl σ w R o s h => ?_⟩
  have h : Post X.K E (fun w J ds => SeqIt X.K w J ds) w (bnd (fs sl w.st) fun ds st => match ds with
    | [.tup []] => ret [] st
    | [x] => match seqOf x with
      | some ds => ret (enumD ds) st
      | none => none
    | _ => none) R := h
  by_cases hz : ∃ st, fs sl w.st = some (.ok [.tup []] st)
  · refine .inr (q sl σ w _ o s ?_)
    obtain ⟨st, ez⟩ := hz
    rw [ez] at h ⊢
    intro vs w1 e1 o1 s1 r1
    obtain ⟨v, rfl, rx⟩ := r1.one_inv
    obtain ⟨a, xs, rfl, f, rs⟩ := rx.tup_inv
    cases rs
    refine ⟨a, rfl, SqT.of (o1.sub _ _ f), ?_⟩
    exact h _ w1 e1 o1 s1 (seq_enum0 f)
  · refine .inl (q1 sl σ w R o s ?_)
    have e : iE fs sl w.st = bnd (fs sl w.st) fun ds st => match ds with
      | [.tup []] => ret [] st
      | [x] => match seqOf x with
        | some ds => ret (enumD ds) st
        | none => none
      | _ => none := by
      unfold iE
      match g : fs sl w.st with
      | none => rfl
      | some (.exc _ _) => rfl
      | some (.ok ds st) =>
        match ds with
        | [] => rfl
        | [.tup []] => exact absurd ⟨st, g⟩ hz
        | [.tup (_ :: _)] => rfl
        | [.non] => rfl
        | [.bl _] => rfl
        | [.int _] => rfl
        | [.str _] => rfl
        | [.lst _] => rfl
        | [.dct _] => rfl
        | [.dcT _] => rfl
        | [.ptr _] => rfl
        | [.scr _] => rfl
        | x :: _ :: _ => cases x with
          | tup l => cases l <;> rfl
          | _ => rfl
    rw [e]
    exact h
theorem ens_IE2 {sl : Sl} {st : Sto} {g : FA} {P : List D → Sto → Prop} (q : Ens (g sl st) fun ds st => (ds = [.tup []] ∧ P [] st) ∨ ∃ es, ds = [.lst es] ∧ P (enumD es) st) : Ens (iE2 g sl st) P := ens_bnd (q.imp fun ds _ q => by
  rcases q with ⟨e, q⟩ | ⟨es, e, q⟩
  · subst e; exact ens_ret q
  · subst e; exact ens_ret q)
end
end M

namespace M
open PySem PySem.Spec L2
section
variable {Q : D → Sto → Prop} {sl : Sl} {st : Sto} {N : Sl → Sto → Prop}
theorem en_gNm {i : Nat} {d : D} (h : N (sl.set i (some d)) st) : Ens (gNm i d sl st) N := ens_ret h
theorem en_gTp {n : Nat} {r : FGs} {ds : List D} (h : ds.length = n ∧ Ens (r ds sl st) N) : Ens (gTp n r (.tup ds) sl st) N := ens_ite h.1 h.2
theorem en_gsC {g : FG} {r : FGs} {d : D} {ds : List D} (h : Ens (g d sl st) fun sl st => Ens (r ds sl st) N) : Ens (gsCons g r (d :: ds) sl st) N := ens_bnd (h.imp fun _ _ q => q)
theorem en_gsN (h : N sl st) : Ens (gsNil [] sl st) N := ens_ret h
theorem en_tI {i : Nat} {g : FGs} {d d' : D} (h : Ens (gsCons (gNm i) g [d, d'] sl st) N) : Ens (gsCons (gNm i) g [d, d'] sl st) N := h
theorem en_addI {c : Bool} {i j : Int} (h : Q (.int (i + j)) st) : Ens (gAdd c st (.int i) (.int j)) Q := ens_ret h
theorem en_neg {i : Int} (h : Q (.int (-i)) st) : Ens (gNeg st (.int i)) Q := ens_ret h
theorem en_subI {i j : Int} (h : Q (.int (i - j)) st) : Ens (gSub st (.int i) (.int j)) Q := ens_ret h
theorem en_augI {f : Int → Int → D} {i j : Int} (h : Q (f i j) st) : Ens (gI0 f st (.int i) (.int j)) Q := ens_ret h
theorem en_cmpI {p : Int → Int → Bool} {q : List Nat → List Nat → Bool} {i j : Int} (h : Q (.bl (p i j)) st) : Ens (gCmp p q st (.int i) (.int j)) Q := ens_ret h
theorem en_eqI {i j : Int} (q : Q (.bl (decide (i = j))) st) : Ens (gEq st (.int i) (.int j)) Q := ens_eqI q
theorem en_neI {i j : Int} (q : Q (.bl (!decide (i = j))) st) : Ens (gNe st (.int i) (.int j)) Q := ens_neI q
theorem en_eqS {i j : Str} (q : Q (.bl (decide (i = j))) st) : Ens (gEq st (.str i) (.str j)) Q := by
  have e : decide (V.str i = V.str j) = decide (i = j) := by by_cases z : i = j <;> simp [z]
  rw [← e] at q
  exact ens_ret q
theorem en_neS {i j : Str} (q : Q (.bl (!decide (i = j))) st) : Ens (gNe st (.str i) (.str j)) Q := by
  have e : decide (V.str i = V.str j) = decide (i = j) := by by_cases z : i = j <;> simp [z]
  rw [← e] at q
  exact ens_ret q
theorem en_isN {x : D} {b : Bool} (e : isNon x = b) (q : Q (.bl b) st) : Ens (gIsN st x .non) Q := by subst e; exact ens_ret q
theorem en_isNT {x : D} (e : isNon x = true) (q : Q (.bl true) st) : Ens (gIsN st x .non) Q := en_isN e q
theorem en_isNF {x : D} (e : isNon x = false) (q : Q (.bl false) st) : Ens (gIsN st x .non) Q := en_isN e q
theorem en_notN {x : D} {b : Bool} (e : isNon x = b) (q : Q (.bl (!b)) st) : Ens (gNotN st x .non) Q := by subst e; exact ens_ret q
theorem en_notNT {x : D} (e : isNon x = false) (q : Q (.bl true) st) : Ens (gNotN st x .non) Q := en_notN e q
theorem en_notNF {x : D} (e : isNon x = true) (q : Q (.bl false) st) : Ens (gNotN st x .non) Q := en_notN e q
theorem en_lenL {ds : List D} (q : Q (.int ds.length) st) : Ens (cLen st [.lst ds]) Q := ens_ret q
theorem en_lenT {ds : List D} (q : Q (.int ds.length) st) : Ens (cLen st [.tup ds]) Q := ens_ret q
theorem en_lenS {x : Str} (h : x.length ≤ 10000000 ∧ Q (.int x.length) st) : Ens (cLen st [.str x]) Q := ens_ite (by have := h.1; unfold PySem.sizeLine; omega) (ens_ret h.2)
theorem en_listL {ds : List D} (q : Q (.lst ds) st) : Ens (cList false st [.lst ds]) Q := ens_ret q
theorem en_listC {ds : List D} (q : Q (.ptr st.length) (st ++ [some (.lst ds)])) : Ens (cList true st [.lst ds]) Q := ens_ret q
theorem en_int {i : Int} (q : Q (.int i) st) : Ens (cInt st [.int i]) Q := ens_ret q
theorem en_max2 {i j : Int} (q : Q (.int (if j > i then j else i)) st) : Ens (cMax2 st [.int i, .int j]) Q := ens_ret q
theorem en_min2 {i j : Int} (q : Q (.int (if j < i then j else i)) st) : Ens (cMin2 st [.int i, .int j]) Q := ens_ret q
theorem en_addS {c : Bool} {x y : Str} (h : x.length + y.length ≤ 10000000 ∧ Q (.str (x ++ y)) st) : Ens (gAdd c st (.str x) (.str y)) Q := ens_ite (by have := h.1; unfold PySem.sizeLine; omega) (ens_ret h.2)
theorem en_augS {x y : Str} (h : x.length + y.length ≤ 10000000 ∧ Q (.str (x ++ y)) st) : Ens (gAddS st (.str x) (.str y)) Q := ens_ite (by have := h.1; unfold PySem.sizeLine; omega) (ens_ret h.2)
theorem en_addL {ds es : List D} (h : ds.length + es.length ≤ 10000000 ∧ Q (.lst (ds ++ es)) st) : Ens (gAdd false st (.lst ds) (.lst es)) Q := ens_addL rfl rfl (by have := h.1; unfold PySem.sizeLine; omega) (ens_ret h.2)
theorem en_slS {c : Bool} {z : Str} {lo hi : Option Int} (h : z.length ≤ 10000000 ∧ Q (.str (cutS z lo hi)) st) : Ens (gSl c st (.str z) lo hi) Q := ens_ite (by have := h.1; unfold PySem.sizeLine; omega) (ens_ret h.2)
theorem en_slL {ds : List D} {lo hi : Option Int} (h : Q (.lst (cutD ds lo hi)) st) : Ens (gSl false st (.lst ds) lo hi) Q := ens_ret h
theorem en_ifE {g : FT} {f1 f2 : FE} (q : Ens (g sl st) fun b st => (b = true → Ens (f1 sl st) Q) ∧ (b = false → Ens (f2 sl st) Q)) : Ens (mIfE g f1 f2 sl st) Q := ens_bnd (q.imp fun _ _ q => ens_cond q.1 q.2)
theorem en_orV {f1 f2 : FE} (q : Ens (f1 sl st) fun x st => ∃ b, x = .bl b ∧ (b = true → Q (.bl true) st) ∧ (b = false → Ens (f2 sl st) Q)) : Ens (mOrV f1 f2 sl st) Q := ens_bnd (q.imp fun _ _ ⟨_, e, q⟩ => by subst e; exact ens_cond (fun e => ens_ret (q.1 e)) q.2)
theorem en_LCc {it : FA} {gt : FG} {tt : FT} {fe : FE} {vs : List Nat} (q : Ens (it sl st) fun ds st => Ens (lcL gt tt fe (wipeD sl vs) ds [] st) fun es st => Q (.ptr st.length) (st ++ [some (.lst es)])) : Ens (mLc true it gt tt fe vs sl st) Q := ens_bnd (q.imp fun _ _ q => ens_bnd (ens_noX (q.imp fun _ _ q => ens_ret q)))
theorem en_isiI (q : Q (.bl true) st) {i : Int} : Ens (gIsi "int" st (.int i)) Q := ens_ret q
def isiR (T : String) (st : Sto) (x : D) : Option Bool := match tyOf st x with
  | some n => kitB n T
  | none => none
theorem en_isiA {T : String} {x : D} {b : Bool} (e : isiR T st x = some b) (q : Q (.bl b) st) : Ens (gIsi T st x) Q := by
  unfold isiR at e
  unfold gIsi
  cases h : tyOf st x with
  | none => rw [h] at e; cases e
  | some n =>
    rw [h] at e
    have e : kitB n T = some b := e
    simp only [e]
    exact ens_ret q
theorem en_isiT {T : String} {x : D} (e : isiR T st x = some true) (q : Q (.bl true) st) : Ens (gIsi T st x) Q := en_isiA e q
theorem en_isiF {T : String} {x : D} (e : isiR T st x = some false) (q : Q (.bl false) st) : Ens (gIsi T st x) Q := en_isiA e q
theorem en_both {b : Bool} {A B : Prop} (hA : b = true → A) (hB : b = false → B) : (b = true → A) ∧ (b = false → B) := ⟨hA, hB⟩
theorem en_T {A B : Prop} (h : A) : (true = true → A) ∧ (true = false → B) := ⟨fun _ => h, fun z => (by cases z)⟩
theorem en_F {A B : Prop} (h : B) : (false = true → A) ∧ (false = false → B) := ⟨fun z => (by cases z), fun _ => h⟩
theorem en_nT {A B : Prop} (h : B) : ((!true) = true → A) ∧ ((!true) = false → B) := ⟨fun z => (by cases z), fun _ => h⟩
theorem en_nF {A B : Prop} (h : A) : ((!false) = true → A) ∧ ((!false) = false → B) := ⟨fun _ => h, fun z => (by cases z)⟩
theorem en_rf {α : Type} {i : α} {d : Decidable (i = i)} {A B : Prop} (h : A) : (@decide (i = i) d = true → A) ∧ (@decide (i = i) d = false → B) := ⟨fun _ => h, fun z => absurd rfl (of_decide_eq_false z)⟩
theorem en_nrf {α : Type} {i : α} {d : Decidable (i = i)} {A B : Prop} (h : B) : ((!@decide (i = i) d) = true → A) ∧ ((!@decide (i = i) d) = false → B) := ⟨fun z => absurd (decide_eq_true (p := i = i) rfl) (by simp at z), fun _ => h⟩
theorem en_DIn {f1 f2 : FE} (q : Ens (f1 sl st) fun y st => Ens (f2 sl st) fun x st => ∃ r, dGet st x y = some r ∧ Q (.bl (!r.isSome)) st) : Ens (mDIn true f1 f2 sl st) Q := ens_bnd (q.imp fun _ _ q => ens_bnd (q.imp fun _ _ ⟨_, e, q⟩ => by simp only [e]; exact ens_ret q))
theorem en_R2 {g : FA} {P : List D → Sto → Prop} (q : Ens (g sl st) fun ds st => ∃ i j : Int, ds = [.int i, .int j] ∧ (-(2 ^ 62) ≤ i ∧ i < 2 ^ 62 ∧ -(2 ^ 62) ≤ j ∧ j < 2 ^ 62) ∧ P (rngD i (j - i).toNat) st) : Ens (iR2 g sl st) P := ens_bnd (q.imp fun _ _ ⟨_, _, e, c, q⟩ => by subst e; exact ens_ite c (ens_ret q))
theorem en_R3 {g : FA} {P : List D → Sto → Prop} (q : Ens (g sl st) fun ds st => ∃ i j : Int, ds = [.int i, .int j, .int (-1)] ∧ (-(2 ^ 62) ≤ i ∧ i < 2 ^ 62 ∧ -(2 ^ 62) ≤ j ∧ j < 2 ^ 62) ∧ P (rngM i (i - j).toNat) st) : Ens (iR3 g sl st) P := ens_bnd (q.imp fun _ _ ⟨_, _, e, c, q⟩ => by subst e; exact ens_ite ⟨rfl, c⟩ (ens_ret q))
theorem en_ty {T : String} {x : D} {P : Prop} (e : tyOk T st x = true) (h : P) : tyOk T st x = true ∧ P := ⟨e, h⟩
theorem ens_insert {i : Nat} {ds : List D} {k : Int} {y : D} (e : st[i]? = some (some (.lst ds))) (h : ds.length ≤ 1000000) (h0 : 0 ≤ k) (h1 : k < 2 ^ 63) (q : Q .non (st.set i (some (.lst (insD ds k y))))) : Ens (gInsert st (.ptr i) [.int k, y]) Q := by
  have e2 : cellL st i = some ds := by unfold cellL; rw [e]
  show Ens (match cellL st i with
    | some ds => if ds.length < sizeLine ∧ 0 ≤ k ∧ k < 2 ^ 63 then putL i (insD ds k y) .non st else none
    | none => none) Q
  rw [e2]
  exact ens_ite ⟨by unfold PySem.sizeLine; omega, h0, h1⟩ (ens_ret q)
theorem en_1000 {n : Nat} {P : Prop} (e : Nat.ble n 1000 = true) (h : P) : n ≤ 1000 ∧ P := ⟨Nat.le_of_ble_eq_true e, h⟩
theorem en_retN {R : D → Sto → Prop} (h : R .non st) : EnsS (sRetN sl st) N R := ens_ret h
end
end M
namespace G
open PySem PySem.Spec L2 M
/-- one step of a plain run -/
local macro_rules | `(tactic| walk_at "es") => `(tactic| first
  | with_reducible apply ens_seq
  | with_reducible apply ens_asg
  | with_reducible apply ens_retS
  | with_reducible apply ens_drop
  | with_reducible apply ens_ifS
  | with_reducible apply ens_next
  | ((with_reducible apply ens_var); exact rfl)
  | with_reducible apply ens_C
  | with_reducible apply ens_bin
  | with_reducible apply ens_un
  | with_reducible apply ens_CB
  | with_reducible apply ens_call
  | with_reducible apply ens_nil
  | with_reducible apply ens_cons
  | (with_reducible apply ens_tup)
  | (with_reducible apply ens_lst)
  | (with_reducible apply ens_lstC)
  | with_reducible apply ens_BM
  | with_reducible apply ens_BM0
  | with_reducible apply ens_NP
  | with_reducible apply ens_PA
  | with_reducible apply ens_SL
  | with_reducible apply ens_DG
  | with_reducible apply ens_DG2
  | with_reducible apply ens_DI
  | with_reducible apply en_DIn
  | with_reducible apply ens_KE
  | with_reducible apply ens_MD
  | with_reducible apply ens_NK
  | with_reducible apply ens_NT
  | with_reducible apply ens_B
  | with_reducible apply ens_TR
  | with_reducible apply ens_AND
  | with_reducible apply ens_OR
  | with_reducible apply ens_NOT
  | with_reducible apply ens_ANDV
  | with_reducible apply ens_NOTV
  | with_reducible apply en_orV
  | with_reducible apply en_ifE
  | with_reducible apply ens_LC
  | with_reducible apply en_LCc
  | with_reducible apply ens_FOR
  | with_reducible apply ens_R1
  | with_reducible apply en_R2
  | with_reducible apply en_R3
  | with_reducible apply ens_IA
  | with_reducible apply ens_IE
  | with_reducible apply ens_IES
  | ((with_reducible apply ens_AUG); exact rfl)
  | with_reducible apply ens_PAR
  | ((with_reducible apply ens_FRZ); exact rfl)
  | with_reducible apply ens_DP
  | with_reducible apply ens_CH
  | with_reducible apply en_retN
  | with_reducible apply en_gNm
  | ((with_reducible apply en_gTp); refine ⟨rfl, ?_⟩)
  | with_reducible apply en_gsC
  | with_reducible apply en_gsN
  | with_reducible apply en_addI
  | with_reducible apply en_subI
  | with_reducible apply en_neg
  | with_reducible apply en_augI
  | with_reducible apply en_cmpI
  | with_reducible apply en_eqI
  | with_reducible apply en_neI
  | with_reducible apply en_eqS
  | with_reducible apply en_neS
  | ((with_reducible apply en_isiT); · exact rfl)
  | ((with_reducible apply en_isiF); · exact rfl)
  | ((with_reducible apply en_isNT); · exact rfl)
  | ((with_reducible apply en_isNF); · exact rfl)
  | ((with_reducible apply en_notNT); · exact rfl)
  | ((with_reducible apply en_notNF); · exact rfl)
  | with_reducible apply en_lenL
  | with_reducible apply en_lenT
  | with_reducible apply en_listL
  | with_reducible apply en_listC
  | with_reducible apply en_int
  | with_reducible apply en_max2
  | with_reducible apply en_min2
  | with_reducible apply en_slL
  | with_reducible apply en_T
  | with_reducible apply en_F
  | with_reducible apply en_nT
  | with_reducible apply en_nF
  | with_reducible apply en_rf
  | with_reducible apply en_nrf
  | with_reducible refine en_1000 rfl ?_
  | ((with_reducible apply en_ty); · exact rfl)
  | refine ⟨_, rfl, ?_⟩)
section
open PySem PySem.Spec L2 M
variable {st : Sto}
theorem iDs_last {xs : List Int} (h : xs ≠ []) : ∃ v, (iDs xs)[(iDs xs).length - 1]? = some (.int v) := by
  unfold iDs
  rw [List.length_map, List.getElem?_map]
  have : xs.length - 1 < xs.length := by
    have := List.length_pos_iff.mpr h
    omega
  rw [List.getElem?_eq_getElem this]
  exact ⟨_, rfl⟩
theorem cut_iDs (xs : List Int) (lo hi : Option Int) : ∃ ys, cutD (iDs xs) lo hi = iDs ys ∧ ys.length ≤ xs.length := by
  unfold cutD iDs
  rw [List.length_map, ← List.map_drop, ← List.map_take]
  exact ⟨_, rfl, by rw [List.length_take, List.length_drop]; omega⟩
theorem iDs_mem {xs : List Int} {j : Nat} {d : D} (h : (iDs xs)[j]? = some d) : ∃ v, d = .int v ∧ j < xs.length ∧ xs[j]? = some v := by
  rw [iDs_get] at h
  cases e : xs[j]? with
  | none => rw [e] at h; cases h
  | some v =>
    rw [e] at h; cases h
    refine ⟨v, rfl, ?_, rfl⟩
    by_cases z : j < xs.length
    · exact z
    · rw [List.getElem?_eq_none (by omega)] at e; cases e
theorem atI_in {α : Type} {ds : List α} {v : Int} (h0 : 0 ≤ v) (h1 : v < ds.length) : ∃ d, d ∈ ds ∧ atI ds v = some d := by
  obtain ⟨n, rfl⟩ := Int.eq_ofNat_of_zero_le h0
  have hn : n < ds.length := by omega
  exact ⟨ds[n], List.getElem_mem hn, at_nat (List.getElem?_eq_getElem hn)⟩
theorem idx_lt {α : Type} {ds : List α} {j : Nat} {d : α} (h : ds[j]? = some d) : j < ds.length := by
  by_cases z : j < ds.length
  · exact z
  · rw [List.getElem?_eq_none (by omega)] at h; cases h
theorem rng_lt {lo : Int} {n j : Nat} {d : D} (h : (rngD lo n)[j]? = some d) : j < n ∧ d = .int (lo + (j : Int)) := by
  have := idx_lt h
  unfold rngD at this h
  rw [List.length_map, List.length_range] at this
  rw [List.getElem?_map, List.getElem?_range this] at h
  cases h
  exact ⟨this, rfl⟩
theorem to_eq {τ : Type} {m : MM τ} {x : τ} {st : Sto} (h : Ens m fun y s => y = x ∧ s = st) : m = ret x st := by
  obtain ⟨y, s, e, rfl, rfl⟩ := h
  exact e
section
variable {κ : Type} [DecidableEq κ]
theorem look_mem {G : List (κ × D)} {k : κ} {d : D} (h : lookD G k = some d) : (k, d) ∈ G := by
  unfold lookD at h
  cases e : G.find? fun kv => decide (kv.1 = k) with
  | none => rw [e] at h; cases h
  | some kv =>
    rw [e] at h
    have h1 := List.find?_some e
    have h2 := List.mem_of_find?_eq_some e
    cases h
    obtain ⟨a, b⟩ := kv
    have h1 : a = k := of_decide_eq_true h1
    subst h1; exact h2
theorem look_ex {G : List (κ × D)} {k : κ} (h : ∃ d, (k, d) ∈ G) : ∃ d, lookD G k = some d := by
  obtain ⟨d, h⟩ := h
  unfold lookD
  cases e : G.find? fun kv => decide (kv.1 = k) with
  | none =>
    rw [List.find?_eq_none] at e
    exact absurd (decide_eq_true rfl) (e _ h)
  | some kv => exact ⟨_, rfl⟩
theorem put_mem {G : List (κ × D)} {k : κ} {d : D} {kv : κ × D} (h : kv ∈ putD G k d) : kv ∈ G ∨ kv = (k, d) := by
  unfold putD at h
  by_cases z : (G.any fun kv => decide (kv.1 = k)) = true
  · rw [if_pos z, List.mem_map] at h
    obtain ⟨x, hx, e⟩ := h
    by_cases q : x.1 = k
    · rw [if_pos q] at e; rw [← e, q]; exact .inr rfl
    · rw [if_neg q] at e; rw [← e]; exact .inl hx
  · rw [if_neg z, List.mem_append, List.mem_singleton] at h
    exact h
theorem put_len {G : List (κ × D)} {k : κ} {d : D} : (putD G k d).length ≤ G.length + 1 := by
  unfold putD
  by_cases z : (G.any fun kv => decide (kv.1 = k)) = true
  · rw [if_pos z, List.length_map]; omega
  · rw [if_neg z, List.length_append]; exact Nat.le_refl _
theorem put_ne {G : List (κ × D)} {k : κ} {d : D} : putD G k d ≠ [] := by
  unfold putD
  by_cases z : (G.any fun kv => decide (kv.1 = k)) = true
  · rw [if_pos z]
    intro e
    rw [List.map_eq_nil_iff] at e
    subst e; cases z
  · rw [if_neg z]; simp
end
theorem dput_str {st : Sto} {i : Nat} {G : List (Key × D)} {s : Str} {v : D} (e : cellK st i = some G) (h : G.length < sizeLine) : dPut st (.ptr i) (.str s) v = some (st.set i (some (.dct (putD G (.inr s) v)))) := by
  show (match cellK st i, some (Sum.inr s) with
    | some ds, some k => if ds.length < sizeLine then some (st.set i (some (.dct (putD ds k v)))) else none
    | _, _ => none) = _
  rw [e]
  exact if_pos h
theorem dput_two {st : Sto} {i : Nat} {G : List (List Key × D)} {s t : Str} {v : D} (e : cellT st i = some G) (h : G.length < sizeLine) : dPut st (.ptr i) (.tup [.str s, .str t]) v = some (st.set i (some (.dcT (putD G [.inr s, .inr t] v)))) := by
  show (match cellT st i, some [Sum.inr s, Sum.inr t] with
    | some ds, some k => if ds.length < sizeLine then some (st.set i (some (.dcT (putD ds k v)))) else none
    | _, _ => none) = _
  rw [e]
  exact if_pos h
theorem sortOk_str {ds : List D} (h : ∀ d ∈ ds, ∃ s, d = .str s) : sortOk ds = true := by
  unfold sortOk
  rw [Bool.and_eq_true, Bool.and_eq_true, Bool.or_eq_true]
  refine ⟨⟨?_, ?_⟩, .inr ?_⟩
  · rw [List.all_eq_true]; intro d m
    obtain ⟨s, rfl⟩ := h d m
    rfl
  · rw [List.all_eq_true]; intro d m
    rw [List.all_eq_true]; intro e n
    obtain ⟨s, rfl⟩ := h d m
    obtain ⟨t, rfl⟩ := h e n
    rfl
  · rw [List.all_eq_true]; intro d m
    obtain ⟨s, rfl⟩ := h d m
    rfl
theorem sortOk_two {ds : List D} (h : ∀ d ∈ ds, ∃ s t, d = .tup [.str s, .str t]) : sortOk ds = true := by
  unfold sortOk
  rw [Bool.and_eq_true, Bool.and_eq_true, Bool.or_eq_true]
  refine ⟨⟨?_, ?_⟩, .inl ?_⟩
  · rw [List.all_eq_true]; intro d m
    obtain ⟨s, t, rfl⟩ := h d m
    rfl
  · rw [List.all_eq_true]; intro d m
    rw [List.all_eq_true]; intro e n
    obtain ⟨s, t, rfl⟩ := h d m
    obtain ⟨u, v, rfl⟩ := h e n
    rfl
  · rw [List.all_eq_true]; intro d m
    obtain ⟨s, t, rfl⟩ := h d m
    rfl
theorem sort_mem {ds : List D} {d : D} (h : d ∈ ds.mergeSort leD) : d ∈ ds := (List.mergeSort_perm ds leD).mem_iff.mp h
theorem chr_str {x : Str} {j : Nat} {d : D} (h : (chrD x)[j]? = some d) : ∃ s, d = .str s := by
  unfold chrD at h
  rw [List.getElem?_map] at h
  cases e : x.cps.toList[j]? with
  | none => rw [e] at h; cases h
  | some c => rw [e] at h; cases h; exact ⟨_, rfl⟩
def shortS : D → Bool
  | .str s => decide (s.length ≤ sizeLine) && PyData.strOk s
  | _ => false
theorem short_of {ds : List D} {j : Nat} {d : D} (h : ds.all shortS = true) (e : ds[j]? = some d) : ∃ s, d = .str s ∧ s.length ≤ sizeLine ∧ PyData.strOk s = true := by
  have m := List.mem_of_getElem? e
  rw [List.all_eq_true] at h
  have := h d m
  cases d with
  | str s =>
    have h2 : (decide (s.length ≤ sizeLine) && PyData.strOk s) = true := this
    rw [Bool.and_eq_true] at h2
    exact ⟨s, rfl, of_decide_eq_true h2.1, h2.2⟩
  | _ => cases this
theorem pfs_strs (ks : List Str) : pfs (ks.map D.str) = true := by
  induction ks with
  | nil => rfl
  | cons k r ih => rw [List.map_cons, pfs, ih]; rfl
theorem join_some {g : Sl → Option D} {gs : List (Sl → Option D)} {acc y : Str} {sl : Sl} (h : g sl = some (.str y)) (hl : acc.length + y.length ≤ 1000000) (r : ∀ a : Str, a.length = acc.length + y.length → (joinD gs a sl).isSome = true) : (joinD (g :: gs) acc sl).isSome = true := by
  have e : (acc ++ y).length = acc.length + y.length := by rw [← T_len, T_app, List.length_append, T_len, T_len]
  simp only [joinD, h]
  rw [if_pos (by rw [e]; unfold PySem.sizeLine; omega)]
  exact r _ e
theorem small_num : ∀ n : Fin 201, (Str.ofString (toString (n.val : Int))).length ≤ 10 ∧ ((n.val : Int)).natAbs.log2 < 1920 := by decide +kernel
theorem sum_len : ∀ ys : List Str, (ys.map (·.length)).sum = (ys.map T).flatten.length
  | [] => rfl
  | y :: r => by rw [List.map_cons, List.sum_cons, List.map_cons, List.flatten_cons, List.length_append, T_len, sum_len r]
def chs (l : List Nat) : List D := l.map fun c => .str (U [c])
theorem lc_chars {tt : FT} {sl : Sl} {st : Sto} {j : Nat} {f : Nat → Bool} (hj : j < sl.length) (ht : ∀ c, tt (sl.set j (some (.str (U [c])))) st = M.ret (f c) st) : ∀ (l : List Nat) (es : List D), es.length + l.length ≤ 1000000 → ∀ {Q : List D → Sto → Prop}, Q (es ++ chs (l.filter f)) st → Ens (lcL (gNm j) tt (mVar j) sl (chs l) es st) Q
  | [], es, _, Q, q => ens_ret (by simpa [chs] using q)
  | c :: r, es, h, Q, q => by
    rw [List.length_cons] at h
    show Ens (bnd (tt (sl.set j (some (.str (U [c])))) st) fun b st => cond b (bnd (mVar j (sl.set j (some (.str (U [c])))) st) fun y st => if es.length < sizeLine then lcL (gNm j) tt (mVar j) sl (chs r) (es ++ [y]) st else none) (lcL (gNm j) tt (mVar j) sl (chs r) es st)) Q
    rw [ht]
    show Ens (cond (f c) _ _) Q
    have hv : gv (sl.set j (some (.str (U [c])))) j = some (.str (U [c])) := by
      unfold gv
      rw [List.getElem?_set_self hj]
    refine ens_cond (fun h1 => ?_) fun h1 => ?_
    · refine ens_bnd (ens_var hv (ens_ite (by unfold PySem.sizeLine; omega) ?_))
      refine lc_chars hj ht r _ (by rw [List.length_append, List.length_singleton]; omega) ?_
      rw [List.filter_cons_of_pos h1] at q
      rw [List.append_assoc]
      exact q
    · refine lc_chars hj ht r es (by omega) ?_
      rw [List.filter_cons_of_neg (by rw [h1]; exact Bool.false_ne_true)] at q
      exact q
theorem strsOf_map : ∀ ys : List Str, strsOf (ys.map D.str) = some ys
  | [] => rfl
  | y :: r => by
    show (match D.str y, strsOf (r.map D.str) with
      | .str i, some is => some (i :: is)
      | _, _ => none) = _
    rw [strsOf_map r]
theorem ens_join {ys : List Str} {Q : D → Sto → Prop} (h : (ys.map T).flatten.length ≤ 1000000) (q : ∀ x : Str, T x = (ys.map T).flatten → Q (.str x) st) : Ens (gJoin st (.str "") [.lst (ys.map .str)]) Q := by
  show Ens (match strsOf (ys.map D.str) with
    | some ys => if (ys.map (·.length)).sum + ys.length * (Str.ofString "").length ≤ 16777216 then M.ret (.str (Txt.join "" ys)) st else none
    | none => none) Q
  rw [strsOf_map]
  have e0 : (Str.ofString "").length = 0 := rfl
  refine ens_ite (by rw [sum_len, e0]; omega) (ens_ret (q _ ?_))
  rw [T_joinT]
  show glue [] _ = _
  rw [glue_nil]
theorem chs_flat : ∀ l : List Nat, ((l.map fun c => U [c]).map T).flatten = l
  | [] => rfl
  | c :: r => by
    rw [List.map_cons, List.map_cons, List.flatten_cons, chs_flat r, T_one]; rfl
theorem ens_joinC {l : List Nat} {Q : D → Sto → Prop} (h : l.length ≤ 1000000) (q : Q (.str (U l)) st) : Ens (gJoin st (.str "") [.lst (chs l)]) Q := by
  have e : chs l = (l.map fun c => U [c]).map D.str := by unfold chs; rw [List.map_map]; rfl
  rw [e]
  refine ens_join (by rw [chs_flat]; exact h) fun x ex => ?_
  rw [show x = U l from T_inj (by rw [ex, chs_flat, T_U])]
  exact q
theorem ens_inC {n : Bool} {c : Nat} {z : Str} {Q : D → Sto → Prop} (q : Q (.bl (ng n (decide (c ∈ z.cps.toList)))) st) : Ens (gIn n st (.str (U [c])) (.str z)) Q := ens_ret q
theorem ens_ixS {x : Str} {i : Nat} {c : Nat} {Q : D → Sto → Prop} (hx : x.length ≤ 1000000) (h : (T x)[i]? = some c) (q : Q (.str (U [c])) st) : Ens (gIx st (.str x) (.int (i : Int))) Q := by
  show Ens (if x.length ≤ sizeLine then lift ((atI x.cps.toList (i : Int)).map fun c => .str ⟨#[c]⟩) st else none) Q
  refine ens_ite (by unfold PySem.sizeLine; omega) ?_
  rw [show atI x.cps.toList (i : Int) = some c from at_nat h]
  exact ens_ret q
theorem cut_1 (z : Str) : T (cutS z none (some 1)) = (T z).take 1 := by
  rw [T_cut]
  show ((T z).drop 0).take (min 1 (T z).length - 0) = _
  rw [List.drop_zero, Nat.sub_zero]
  cases T z with
  | nil => rfl
  | cons a r => simp
theorem cut_2 (z : Str) : T (cutS z (some 1) none) = (T z).drop 1 := by
  rw [T_cut]
  show ((T z).drop (min 1 (T z).length)).take ((T z).length - min 1 (T z).length) = _
  cases T z with
  | nil => rfl
  | cons a r =>
    have : min 1 (a :: r).length = 1 := by simp
    rw [this]
    simp
theorem cut_3 (z : Str) : T (cutS z (some (-1)) none) = (T z).drop ((T z).length - 1) := by
  rw [T_cut]
  have e : HT.sIx (T z).length 0 (some (-1)) = (T z).length - 1 := by
    show ((-1 : Int) + ((T z).length : Int)).toNat = _
    omega
  rw [e]
  show ((T z).drop ((T z).length - 1)).take ((T z).length - ((T z).length - 1)) = _
  rw [List.take_of_length_le]
  rw [List.length_drop]; omega
theorem cut_4 (z : Str) : T (cutS z none (some (-1))) = (T z).take ((T z).length - 1) := by
  rw [T_cut]
  have e : HT.sIx (T z).length (T z).length (some (-1)) = (T z).length - 1 := by
    show ((-1 : Int) + ((T z).length : Int)).toNat = _
    omega
  rw [e]
  show ((T z).drop 0).take ((T z).length - 1 - 0) = _
  rw [List.drop_zero, Nat.sub_zero]
theorem eq_U {x : Str} {l : List Nat} : x = U l ↔ T x = l := ⟨fun h => by rw [h, T_U], fun h => T_inj (by rw [h, T_U])⟩
theorem ens_glS {c : Bool} {z : Str} {lo hi : Option Int} {Q : D → Sto → Prop} (h : z.length ≤ 1000000) (q : Q (.str (cutS z lo hi)) st) : Ens (gSl c st (.str z) lo hi) Q := ens_ite (by unfold PySem.sizeLine; omega) (ens_ret q)
def oS (l : List Nat) : D := if l = [] then .non else .str (U l)
theorem filt_len (f : Nat → Bool) (l : List Nat) : (l.filter f).length ≤ l.length := List.length_filter_le _ _
theorem ens_ixLast {x : Str} {c : Nat} {Q : D → Sto → Prop} (hx : x.length ≤ 1000000) (h : (T x)[(T x).length - 1]? = some c) (q : Q (.str (U [c])) st) : Ens (gIx st (.str x) (.int (-1))) Q := by
  show Ens (if x.length ≤ sizeLine then lift ((atI x.cps.toList (-1)).map fun c => .str ⟨#[c]⟩) st else none) Q
  refine ens_ite (by unfold PySem.sizeLine; omega) ?_
  rw [show atI x.cps.toList (-1) = some c from at_last h]
  exact ens_ret q
theorem U_eq {a b : Nat} : U [a] = U [b] ↔ a = b := by rw [eq_U, T_one]; simp
theorem inV_str (k : Str) : ∀ ks : List Str, inV (V.str k) (ks.map V.str) = decide (k ∈ ks)
  | [] => rfl
  | a :: r => by
    have ih := inV_str k r
    unfold inV at ih ⊢
    rw [List.map_cons, List.any_cons, ih]
    show ((a == k) || _) = _
    by_cases h : a = k
    · subst h; simp
    · have h2 : k ≠ a := fun z => h z.symm
      have : (a == k) = false := by simpa using h
      rw [this]
      simp [h2]
theorem scDs_str : ∀ ks : List Str, scDs (ks.map D.str) = some (ks.map V.str)
  | [] => rfl
  | a :: r => by
    show (match scD (.str a), scDs (r.map D.str) with
      | some v, some vs => some (v :: vs)
      | _, _ => none) = _
    rw [scDs_str r]; rfl
theorem ens_inL {n : Bool} {d : D} {k : Str} {ks : List Str} {Q : D → Sto → Prop} (h : lstOf st d = some (ks.map .str)) (q : Q (.bl (ng n (decide (k ∈ ks)))) st) : Ens (gIn n st (.str k) d) Q := by
  have main : Ens (match seqD st d, scD (.str k) with
    | some ds, some v => match scDs ds with
      | some vs => M.ret (.bl (ng n (inV v vs))) st
      | none => none
    | _, _ => none) Q → Ens (gIn n st (.str k) d) Q := fun z => by
    cases d with
    | str _ => cases h
    | _ => exact z
  have e : seqD st d = some (ks.map .str) := by
    cases d with
    | tup _ => cases h
    | _ => exact h
  refine main ?_
  rw [e]
  show Ens (match scDs (ks.map D.str) with
    | some vs => M.ret (.bl (ng n (inV (V.str k) vs))) st
    | none => none) Q
  rw [scDs_str]
  show Ens (M.ret (.bl (ng n (inV (V.str k) (ks.map V.str)))) st) Q
  rw [inV_str]
  exact ens_ret q
theorem py_strs {L : List D} (h : ∀ d ∈ L, ∃ s, d = D.str s ∧ PyData.strOk s = true) : ∃ xs, pys L = some xs ∧ PyData.canLayAll0 xs = true ∧ PyData.depthAll xs = 0 := by
  induction L with
  | nil => exact ⟨[], by rw [pys], by rw [PyData.canLayAll0], by rw [PyData.depthAll]⟩
  | cons d r ih =>
    obtain ⟨xs, e, h1, h2⟩ := ih fun x m => h x (List.mem_cons_of_mem _ m)
    obtain ⟨s, rfl, o⟩ := h d List.mem_cons_self
    refine ⟨.str s :: xs, by rw [pys, py, e], ?_, ?_⟩
    · rw [PyData.canLayAll0, PyData.canLay0, o, h1]; rfl
    · rw [PyData.depthAll, h2, PyData.depth.eq_7]; rfl
end
section
open PySem PySem.Spec L2 M
section
variable {κ : Type} [DecidableEq κ]
theorem find_map {G : List (κ × D)} {k t : κ} {d : D} : (G.map fun kv => if kv.1 = k then (kv.1, d) else kv).find? (fun kv => decide (kv.1 = t)) = (G.find? fun kv => decide (kv.1 = t)).map fun kv => if kv.1 = k then (kv.1, d) else kv := by
  induction G with
  | nil => rfl
  | cons x r ih =>
    have e : ((if x.1 = k then (x.1, d) else x) : κ × D).1 = x.1 := by split <;> rfl
    rw [List.map_cons, List.find?_cons, List.find?_cons, e]
    cases decide (x.1 = t) with
    | true => rfl
    | false => exact ih
theorem look_put {G : List (κ × D)} {k t : κ} {d : D} : lookD (putD G k d) t = if t = k then some d else lookD G t := by
  unfold putD lookD
  by_cases z : (G.any fun kv => decide (kv.1 = k)) = true
  · rw [if_pos z, find_map]
    by_cases q : t = k
    · subst q
      rw [if_pos rfl]
      rw [List.any_eq_true] at z
      obtain ⟨x, m, e⟩ := z
      cases f : G.find? fun kv => decide (kv.1 = t) with
      | none =>
        rw [List.find?_eq_none] at f
        exact absurd e (f x m)
      | some y =>
        have := List.find?_some f
        simp only [decide_eq_true_eq] at this
        simp only [Option.map_some, this, if_true]
    · rw [if_neg q]
      cases f : G.find? fun kv => decide (kv.1 = t) with
      | none => rfl
      | some y =>
        have := List.find?_some f
        simp only [decide_eq_true_eq] at this
        have n : ¬ y.1 = k := fun e => q (this.symm.trans e)
        simp only [Option.map_some, n, if_false]
  · rw [if_neg z, List.find?_append]
    by_cases q : t = k
    · subst q
      rw [if_pos rfl]
      have f : G.find? (fun kv => decide (kv.1 = t)) = none := by
        rw [List.find?_eq_none]
        intro x m e
        exact z (List.any_eq_true.mpr ⟨x, m, e⟩)
      rw [f]; simp
    · rw [if_neg q]
      have : ¬ k = t := fun e => q e.symm
      cases f : G.find? fun kv => decide (kv.1 = t) with
      | none => simp [this]
      | some y => simp
end
abbrev Gl := List (Key × D)
abbrev Kl := List (List Key × D)
def has (G : Gl) (s : Str) : Prop := (lookD G (.inr s)).isSome = true
theorem has_put {G : Gl} {s t : Str} {d : D} : has (putD G (.inr s) d) t ↔ t = s ∨ has G t := by
  unfold has
  rw [look_put]
  by_cases z : t = s
  · subst z; simp
  · have : ¬ (Sum.inr t : Key) = Sum.inr s := fun e => z (by cases e; rfl)
    rw [if_neg this]; simp [z]
def nm7 : List Str := (T "abfil-.").map fun c => U [c]
def ligs : List Str := ["ff", "fi", "fl", "ab", "li", "--", "ffi", "ffl", "aba", "lil", "ffif", "abab"]
def softS : Str := "-\n"
def nms : List Str := nm7 ++ ligs ++ [softS]
def GEnt (kv : Key × D) : Prop := ∃ s, ∃ w h p : Int, kv = (.inr s, .tup [.int w, .int h, .int p]) ∧ s ∈ nms ∧ 1 ≤ w ∧ w ≤ 100000 ∧ 0 ≤ h ∧ h ≤ 100000 ∧ 0 ≤ p ∧ p ≤ 100000
def KEnt (G : Gl) (kv : List Key × D) : Prop := ∃ a b, ∃ v : Int, kv = ([.inr a, .inr b], .int v) ∧ has G a ∧ has G b ∧ -100000 ≤ v ∧ v ≤ 0 ∧ ∀ w h p : Int, lookD G (.inr a) = some (.tup [.int w, .int h, .int p]) → 1 ≤ w + v
structure FontOk (G : Gl) (N : Kl) : Prop where
  ent : ∀ kv ∈ G, GEnt kv
  len : G.length ≤ 20
  chars : ∀ s ∈ nm7, has G s
  beg : ∀ s ∈ ligs, has G s → has G (cutS s none (some (-1)))
  soft : has G softS
  ker : ∀ kv ∈ N, KEnt G kv
  klen : N.length ≤ 11
abbrev fontD (nm : Str) (G : Gl) (N : Kl) : D := .tup [.str "font", .str nm, .dct G, .dcT N]
theorem ent_put {G : Gl} {kv : Key × D} (h : ∀ kv ∈ G, GEnt kv) (e : GEnt kv) : ∀ x ∈ putD G kv.1 kv.2, GEnt x := fun x m => by
  rcases put_mem m with m | rfl
  · exact h x m
  · exact e
theorem ker_put {G : Gl} {N : Kl} {kv : List Key × D} (h : ∀ kv ∈ N, KEnt G kv) (e : KEnt G kv) : ∀ x ∈ putD N kv.1 kv.2, KEnt G x := fun x m => by
  rcases put_mem m with m | rfl
  · exact h x m
  · exact e
theorem has_ent {G : Gl} (h : ∀ kv ∈ G, GEnt kv) {s : Str} (x : has G s) : ∃ w h p : Int, lookD G (.inr s) = some (.tup [.int w, .int h, .int p]) ∧ s ∈ nms ∧ 1 ≤ w ∧ w ≤ 100000 ∧ 0 ≤ h ∧ h ≤ 100000 ∧ 0 ≤ p ∧ p ≤ 100000 := by
  unfold has at x
  cases e : lookD G (.inr s) with
  | none => rw [e] at x; cases x
  | some d =>
    obtain ⟨s', w, hh, p, e2, m⟩ := h _ (look_mem e)
    cases e2
    exact ⟨w, hh, p, rfl, m⟩
theorem ent_pf {G : Gl} (h : ∀ kv ∈ G, GEnt kv) : pfk G = true := by
  induction G with
  | nil => rfl
  | cons kv r ih =>
    obtain ⟨s, w, hh, p, rfl, _⟩ := h kv List.mem_cons_self
    rw [pfk, ih fun x m => h x (List.mem_cons_of_mem _ m)]; rfl
theorem ker_pf {G : Gl} {N : Kl} (h : ∀ kv ∈ N, KEnt G kv) : pft N = true := by
  induction N with
  | nil => rfl
  | cons kv r ih =>
    obtain ⟨a, b, v, rfl, _⟩ := h kv List.mem_cons_self
    rw [pft, ih fun x m => h x (List.mem_cons_of_mem _ m)]; rfl
theorem font_pf {nm : Str} {G : Gl} {N : Kl} (h : FontOk G N) : pf (fontD nm G N) = true := by
  simp only [pf, pfs, ent_pf h.ent, ker_pf h.ker]; rfl
/-! repr -/
theorem int_short {i : Int} (h : i.natAbs ≤ 200000) : (PyData.int i).leavesShort 13 = true ∧ (PyData.int i).showable = true ∧ (PyData.int i).weight ≤ 19 := by
  refine ⟨?_, ?_, ?_⟩
  · rw [PyData.leavesShort]
    exact decide_eq_true (PyData.shown_int_le (by omega))
  · rw [PyData.showable]
    refine decide_eq_true ?_
    have : i.natAbs.log2 < 18 ∨ i.natAbs = 0 := by
      by_cases z : i.natAbs = 0
      · exact .inr z
      · left
        rw [Nat.log2_lt z]
        have : (2 : Nat) ^ 18 = 262144 := by decide
        omega
    rcases this with z | z
    · omega
    · rw [z]; decide
  · rw [PyData.weight]
    split
    · omega
    · rename_i z
      have z : i.natAbs ≠ 0 := fun e => z (by simp; omega)
      have : i.natAbs.log2 < 18 := by
        rw [Nat.log2_lt z]
        have : (2 : Nat) ^ 18 = 262144 := by decide
        omega
      omega
def strShort (s : Str) : Prop := s.length ≤ 40 ∧ ∀ c ∈ T s, c < 1000
theorem str_short {s : Str} (h : strShort s) : (PyData.str s).leavesShort 13 = true ∧ (PyData.str s).showable = true ∧ (PyData.str s).weight ≤ 40 := by
  refine ⟨?_, by rw [PyData.showable], by rw [PyData.weight]; exact h.1⟩
  rw [PyData.leavesShort, List.all_eq_true]
  intro c m
  have := h.2 c m
  exact decide_eq_true (Nat.lt_trans this (by decide))
/-- what a table of small things keeps -/
def RK (kvs : List (PyData × PyData)) (n : Nat) : Prop := PyData.leavesShortKv 13 kvs = true ∧ PyData.showableKv kvs = true ∧ PyData.weightKv kvs ≤ n ∧ PyData.depthKv kvs ≤ 1 ∧ noLsK kvs = true
theorem rk_nil : RK [] 0 := ⟨rfl, rfl, Nat.le_refl _, Nat.zero_le _, rfl⟩
theorem rk_ent {kvs : List (PyData × PyData)} {n : Nat} {s : Str} {w h p : Int} (hs : strShort s) (hw : w.natAbs ≤ 200000) (hh : h.natAbs ≤ 200000) (hp : p.natAbs ≤ 200000) (r : RK kvs n) : RK ((.str s, .tuple [.int w, .int h, .int p]) :: kvs) (n + 110) := by
  obtain ⟨a1, a2, a3⟩ := str_short hs
  obtain ⟨b1, b2, b3⟩ := int_short hw
  obtain ⟨c1, c2, c3⟩ := int_short hh
  obtain ⟨d1, d2, d3⟩ := int_short hp
  obtain ⟨r1, r2, r3, r4, r5⟩ := r
  refine ⟨?_, ?_, ?_, ?_, ?_⟩
  · simp only [PyData.leavesShortKv, a1, r1, Bool.and_true, Bool.true_and]
    rw [PyData.leavesShort]
    simp only [PyData.leavesShortAll, b1, c1, d1, Bool.and_self]
  · simp only [PyData.showableKv, a2, r2, Bool.and_true, Bool.true_and]
    rw [PyData.showable]
    simp only [PyData.showableAll, b2, c2, d2, Bool.and_self]
  · have e : (PyData.tuple [.int w, .int h, .int p]).weight = PyData.weightAll [.int w, .int h, .int p] := by rw [PyData.weight]
    simp only [PyData.weightKv, e, PyData.weightAll]
    omega
  · simp only [PyData.depthKv, PyData.depth, PyData.depthAll]
    omega
  · simp only [noLsK, noLs, noLsA, r5, Bool.and_self]
theorem rk_ker {kvs : List (PyData × PyData)} {n : Nat} {s t : Str} {v : Int} (hs : strShort s) (ht : strShort t) (hv : v.natAbs ≤ 200000) (r : RK kvs n) : RK ((.tuple [.str s, .str t], .int v) :: kvs) (n + 110) := by
  obtain ⟨a1, a2, a3⟩ := str_short hs
  obtain ⟨b1, b2, b3⟩ := str_short ht
  obtain ⟨c1, c2, c3⟩ := int_short hv
  obtain ⟨r1, r2, r3, r4, r5⟩ := r
  refine ⟨?_, ?_, ?_, ?_, ?_⟩
  · simp only [PyData.leavesShortKv, c1, r1, Bool.and_true]
    rw [PyData.leavesShort]
    simp only [PyData.leavesShortAll, a1, b1, Bool.and_self]
  · simp only [PyData.showableKv, c2, r2, Bool.and_true]
    rw [PyData.showable]
    simp only [PyData.showableAll, a2, b2, Bool.and_self]
  · have e : (PyData.tuple [.str s, .str t]).weight = PyData.weightAll [.str s, .str t] := by rw [PyData.weight]
    simp only [PyData.weightKv, e, PyData.weightAll]
    omega
  · simp only [PyData.depthKv, PyData.depth, PyData.depthAll]
    omega
  · simp only [noLsK, noLs, noLsA, r5, Bool.and_self]
theorem nms_short : ∀ s ∈ nms, strShort s := by
  have h : nms.all (fun s => decide (s.length ≤ 40) && (T s).all fun c => decide (c < 1000)) = true := by decide +kernel
  intro s m
  rw [List.all_eq_true] at h
  have := h s m
  rw [Bool.and_eq_true, List.all_eq_true] at this
  exact ⟨of_decide_eq_true this.1, fun c mc => of_decide_eq_true (this.2 c mc)⟩
/-- G whose names are short -/
def GShort (G : Gl) : Prop := ∀ kv ∈ G, ∃ s, ∃ w h p : Int, kv = (.inr s, .tup [.int w, .int h, .int p]) ∧ strShort s ∧ w.natAbs ≤ 200000 ∧ h.natAbs ≤ 200000 ∧ p.natAbs ≤ 200000
def KShort (N : Kl) : Prop := ∀ kv ∈ N, ∃ a b, ∃ v : Int, kv = ([.inr a, .inr b], .int v) ∧ strShort a ∧ strShort b ∧ v.natAbs ≤ 200000
theorem rk_G : ∀ {G : Gl}, GShort G → ∃ xs, dqk G = some xs ∧ RK ((G.map fun p => keyPy p.1).zip xs) (110 * G.length)
  | [], _ => ⟨[], by rw [dqk], rk_nil⟩
  | kv :: r, h => by
    obtain ⟨s, w, hh, p, rfl, hs, a, b, c⟩ := h kv List.mem_cons_self
    obtain ⟨xs, e, k⟩ := rk_G fun x m => h x (List.mem_cons_of_mem _ m)
    refine ⟨.tuple [.int w, .int hh, .int p] :: xs, by rw [dqk, dq, e]; simp only [dqs, dq, Option.map_some], ?_⟩
    have := rk_ent hs a b c k
    rw [List.length_cons, Nat.mul_succ]
    exact this
theorem rk_N : ∀ {N : Kl}, KShort N → ∃ xs, dqt N = some xs ∧ RK ((N.map fun p => .tuple (p.1.map keyPy)).zip xs) (110 * N.length)
  | [], _ => ⟨[], by rw [dqt], rk_nil⟩
  | kv :: r, h => by
    obtain ⟨s, t, v, rfl, hs, ht, hv⟩ := h kv List.mem_cons_self
    obtain ⟨xs, e, k⟩ := rk_N fun x m => h x (List.mem_cons_of_mem _ m)
    refine ⟨.int v :: xs, by rw [dqt, dq, e], ?_⟩
    have := rk_ker hs ht hv k
    rw [List.length_cons, Nat.mul_succ]
    exact this
theorem font_repr {nm : Str} {G : Gl} {N : Kl} (hn : strShort nm) (hG : GShort G) (hN : KShort N) (lG : G.length ≤ 1000) (lN : N.length ≤ 1000) : ∃ x, dq (fontD nm G N) = some x ∧ reprOk x = true := by
  obtain ⟨xs, e1, a1, a2, a3, a4, a5⟩ := rk_G hG
  obtain ⟨ys, e2, b1, b2, b3, b4, b5⟩ := rk_N hN
  obtain ⟨c1, c2, c3⟩ := str_short hn
  have hf : strShort "font" := ⟨by decide, by decide⟩
  obtain ⟨d1, d2, d3⟩ := str_short hf
  refine ⟨.tuple [.str "font", .str nm, .dict ((G.map fun p => keyPy p.1).zip xs), .dict ((N.map fun p => .tuple (p.1.map keyPy)).zip ys)], ?_, ?_⟩
  · simp only [dq, dqs, e1, e2, Option.map_some]
  generalize hA : ((G.map fun p => keyPy p.1).zip xs) = A at *
  generalize hB : ((N.map fun p => PyData.tuple (p.1.map keyPy)).zip ys) = B at *
  have l1 : (PyData.dict A).leavesShort 13 = true := by rw [PyData.leavesShort]; exact a1
  have l2 : (PyData.dict B).leavesShort 13 = true := by rw [PyData.leavesShort]; exact b1
  have s1 : (PyData.dict A).showable = true := by rw [PyData.showable]; exact a2
  have s2 : (PyData.dict B).showable = true := by rw [PyData.showable]; exact b2
  have w1 : (PyData.dict A).weight = PyData.weightKv A := by rw [PyData.weight]
  have w2 : (PyData.dict B).weight = PyData.weightKv B := by rw [PyData.weight]
  have ls : (PyData.tuple [.str "font", .str nm, .dict A, .dict B]).leavesShort 13 = true := by
    rw [PyData.leavesShort]
    simp only [PyData.leavesShortAll, c1, d1, l1, l2, Bool.and_self]
  have wt : (PyData.tuple [.str "font", .str nm, .dict A, .dict B]).weight ≤ 300000 := by
    rw [PyData.weight]
    simp only [PyData.weightAll, w1, w2]
    omega
  have sh := PyData.shown_le 13 (by decide) _ ls
  unfold reprOk
  simp only [Bool.and_eq_true, Bool.or_eq_true, decide_eq_true_eq]
  refine ⟨⟨⟨.inr ?_, ?_⟩, by omega⟩, ?_⟩
  · simp only [noLs, noLsA, a5, b5, Bool.and_self]
  · rw [PyData.showable]
    simp only [PyData.showableAll, c2, d2, s1, s2, Bool.and_self]
  · simp only [PyData.depth, PyData.depthAll]
    omega
theorem FontOk.shortG {G : Gl} {N : Kl} (h : FontOk G N) : GShort G := fun kv m => by
  obtain ⟨s, w, hh, p, e, ms, _⟩ := h.ent kv m
  exact ⟨s, w, hh, p, e, nms_short s ms, by omega, by omega, by omega⟩
theorem FontOk.shortN {G : Gl} {N : Kl} (h : FontOk G N) : KShort N := fun kv m => by
  obtain ⟨a, b, v, e, ha, hb, v0, v1, _⟩ := h.ker kv m
  obtain ⟨_, _, _, _, ma, _⟩ := has_ent h.ent ha
  obtain ⟨_, _, _, _, mb, _⟩ := has_ent h.ent hb
  exact ⟨a, b, v, e, nms_short a ma, nms_short b mb, by omega⟩
end
open PySem PySem.Spec L2 M
def top (i : Nat) : Stmt := PySem.Challenge.pw_galleypapers_k35_points_of_any_string.main.body.getD i (.Pass ⟨0, 0, 0, 0⟩)
structure Tx (P : Program) (w : World) (K : PySem.W.Frag) (mg : Str → Option Value) (base : Heap) (cs : Cs) : Prop where
  z_int : mg "int" = none
  z_len : mg "len" = none
  z_max : mg "max" = none
  z_enumerate : mg "enumerate" = none
  z_range : mg "range" = none
  z_min : mg "min" = none
  z_str : mg "str" = none
  z_isinstance : mg "isinstance" = none
  z_bool : mg "bool" = none
  z_list : mg "list" = none
  z_tuple : mg "tuple" = none
  c_MOST_LETTERS : ∃ t, mg "_MOST_LETTERS" = some (.int 12 t)
  cl_Divider : Cls K (cs.C "Divider")
  na_Divider_left : NoAttr K (cs.C "Divider") "left"
  na_Divider_right : NoAttr K (cs.C "Divider") "right"
  na_Divider_patterns : NoAttr K (cs.C "Divider") "patterns"
  na_Divider_longest : NoAttr K (cs.C "Divider") "longest"
  na_Divider_exceptions : NoAttr K (cs.C "Divider") "exceptions"
section
variable {P : Program} {w : World} {K : PySem.W.Frag} {mg : Str → Option Value} {base : Heap} {cs : Cs}
abbrev s_is_small : Stmt := top 1
theorem sc_is_small : FnScope ["sign"] ["sign"] (defScope s_is_small) := ⟨rfl, rfl, rfl, by decide +kernel, rfl, by decide +kernel, by decide +kernel⟩
def b_is_small : FS :=
    (sRet (mChain gLe gLe (mC (.str "a")) (mVar 0) (mC (.str "z"))))
def m_is_small : List D → Sto → MM D := mDef 1 1 b_is_small
theorem ok_is_small {f : Addr} {fd : FuncData} (F : Fun K "is_small" "is_small" s_is_small f fd) (T : Tx P w K mg base cs)  :
    FnOk P w K mg base CX0 1 f fd ["sign"] (spM K 1 m_is_small) :=
  fn_m F sc_is_small fun cdv A outer s H E E' hr =>
    (mss_one (ms_ret (me_chain opr_le opr_le rf_cmp rf_cmp me_str (me_var 0) me_str)))
abbrev s_is_letter : Stmt := top 2
theorem sc_is_letter : FnScope ["sign"] ["sign"] (defScope s_is_letter) := ⟨rfl, rfl, rfl, by decide +kernel, rfl, by decide +kernel, by decide +kernel⟩
def b_is_letter : FS :=
    (sRet (mOrV (mChain gLe gLe (mC (.str "a")) (mVar 0) (mC (.str "z"))) (mChain gLe gLe (mC (.str "A")) (mVar 0) (mC (.str "Z")))))
def m_is_letter : List D → Sto → MM D := mDef 1 1 b_is_letter
theorem ok_is_letter {f : Addr} {fd : FuncData} (F : Fun K "is_letter" "is_letter" s_is_letter f fd) (T : Tx P w K mg base cs)  :
    FnOk P w K mg base CX0 1 f fd ["sign"] (spM K 1 m_is_letter) :=
  fn_m F sc_is_letter fun cdv A outer s H E E' hr =>
    (mss_one (ms_ret (me_or (me_chain opr_le opr_le rf_cmp rf_cmp me_str (me_var 0) me_str) (me_one (me_chain opr_le opr_le rf_cmp rf_cmp me_str (me_var 0) me_str)))))
abbrev s_is_digit : Stmt := top 3
theorem sc_is_digit : FnScope ["sign"] ["sign"] (defScope s_is_digit) := ⟨rfl, rfl, rfl, by decide +kernel, rfl, by decide +kernel, by decide +kernel⟩
def b_is_digit : FS :=
    (sRet (mChain gLe gLe (mC (.str "0")) (mVar 0) (mC (.str "9"))))
def m_is_digit : List D → Sto → MM D := mDef 1 1 b_is_digit
theorem ok_is_digit {f : Addr} {fd : FuncData} (F : Fun K "is_digit" "is_digit" s_is_digit f fd) (T : Tx P w K mg base cs)  :
    FnOk P w K mg base CX0 1 f fd ["sign"] (spM K 1 m_is_digit) :=
  fn_m F sc_is_digit fun cdv A outer s H E E' hr =>
    (mss_one (ms_ret (me_chain opr_le opr_le rf_cmp rf_cmp me_str (me_var 0) me_str)))
abbrev s_are_small : Stmt := top 4
theorem sc_are_small : FnScope ["text", "sign"] ["text"] (defScope s_are_small) := ⟨rfl, rfl, rfl, by decide +kernel, rfl, by decide +kernel, by decide +kernel⟩
def b_are_small : FS :=
    (sSeq (sFor (iAny (mVar 0)) (gNm 1)
    (sIf (mNot (mTru (mCall (callB 1 m_is_small) (mCons (mVar 1) mNil))))
    (sRet (mC (.bl false)))
    sNext))
    (sRet (mBin gNe (mVar 0) (mC (.str "")))))
def m_are_small : List D → Sto → MM D := mDef 2 1 b_are_small
theorem ok_are_small {f : Addr} {fd : FuncData} (F : Fun K "are_small" "are_small" s_are_small f fd) (T : Tx P w K mg base cs) (C_is_small : Cal P w K mg base 1 "is_small" ["sign"] m_is_small) :
    FnOk P w K mg base CX0 2 f fd ["text"] (spM K 1 m_are_small) :=
  fn_m F sc_are_small fun cdv A outer s H E E' hr =>
    (mss_cons (ms_for PassesOwn.never rfl (mi_any (me_var 0)) (mg_name (i := 1) sc_are_small.nd)
    (mss_one (ms_if (mt_not (mt_truth (me_cal C_is_small callf_B (hr.mono (by decide)) (ma_cons (me_var 1) ma_nil))))
    (mss_one (ms_ret me_bl))
    mss_nil)))
    (mss_one (ms_ret (me_cmp op_ne rf_ne (me_var 0) me_str (nomark _)))))
abbrev s_pattern : Stmt := top 7
theorem sc_pattern : FnScope ["text", "signs", "numbers", "filled", "sign", "letters"] ["text"] (defScope s_pattern) := ⟨rfl, rfl, rfl, by decide +kernel, rfl, by decide +kernel, by decide +kernel⟩
def b_pattern : FS :=
    (sSeq (sAsg (mC (.str "")) (gNm 1))
    (sSeq (sAsg (mLst true (mCons (mC (.int 0)) mNil)) (gNm 2))
    (sSeq (sAsg (mC (.bl false)) (gNm 3))
    (sSeq (sFor (iAny (mVar 0)) (gNm 4)
    (sIf (mNot (mTru (mCall (callB 1 m_is_digit) (mCons (mVar 4) mNil))))
    (sSeq (sAug 1 (mVar 4) gAddS)
    (sSeq (sDrop (mBM "list" gAppend (mVar 2) (mCons (mC (.int 0)) mNil)))
    (sAsg (mC (.bl false)) (gNm 3))))
    (sIf (mTru (mVar 3))
    (sRet (mTup (mCons (mC (.str "")) (mCons (mLst false mNil) mNil))))
    (sSeq (sAsg (mCB cIntS (mCons (mVar 4) mNil)) (gSet (mVar 2) (mUn gNeg (mC (.int 1))) gSetL))
    (sAsg (mC (.bl true)) (gNm 3))))))
    (sSeq (sAsg (mBM "str" (gSS (fun a _ => a.length ≤ sizeLine) Txt.removesuffix) (mBM "str" (gSS (fun a _ => a.length ≤ sizeLine) Txt.removeprefix) (mVar 1) (mCons (mC (.str ".")) mNil)) (mCons (mC (.str ".")) mNil)) (gNm 5))
    (sSeq (sIf (mOr (mNot (mTru (mCall (callB 1 m_are_small) (mCons (mVar 5) mNil)))) (mB (mBin gGt (mCB cLen (mCons (mVar 5) mNil)) (mC (.int 12)))))
    (sRet (mTup (mCons (mC (.str "")) (mCons (mLst false mNil) mNil))))
    sNext)
    (sFrz 2 (sRet (mTup (mCons (mVar 1) (mCons (mVar 2) mNil)))))))))))
def m_pattern : List D → Sto → MM D := mDef 6 1 b_pattern
theorem ok_pattern {f : Addr} {fd : FuncData} (F : Fun K "_pattern" "_pattern" s_pattern f fd) (T : Tx P w K mg base cs) (C_is_digit : Cal P w K mg base 1 "is_digit" ["sign"] m_is_digit) (C_are_small : Cal P w K mg base 2 "are_small" ["text"] m_are_small) :
    FnOk P w K mg base CX0 3 f fd ["text"] (spM K 1 m_pattern) :=
  fn_m F sc_pattern fun cdv A outer s H E E' hr =>
    (mss_cons (ms_set (i := 1) sc_pattern.nd me_str)
    (mss_cons (ms_set (i := 2) sc_pattern.nd (me_lst true (ma_cons me_int ma_nil)))
    (mss_cons (ms_set (i := 3) sc_pattern.nd me_bl)
    (mss_cons (ms_for PassesOwn.never rfl (mi_any (me_var 0)) (mg_name (i := 4) sc_pattern.nd)
    (mss_one (ms_if (mt_not (mt_truth (me_cal C_is_digit callf_B (hr.mono (by decide)) (ma_cons (me_var 4) ma_nil))))
    (mss_cons (ms_aug (i := 1) sc_pattern.nd (me_var 4) ip_addS rip_addS)
    (mss_cons (ms_expr (me_append (me_var 2) (ma_cons me_int ma_nil)))
    (mss_one (ms_set (i := 3) sc_pattern.nd me_bl))))
    (mss_one (ms_if (mt_truth (me_var 3))
    (mss_one (ms_ret (me_tup (ma_cons me_str (ma_cons (me_lst false ma_nil) ma_nil)))))
    (mss_cons (ms_asg (me_callTy call_intS rf_intS T.z_int (by decide +kernel) (ma_cons (me_var 4) ma_nil)) (mg_sub (me_var 2) (me_neg me_int) set_list rf_setL))
    (mss_one (ms_set (i := 3) sc_pattern.nd me_bl))))))))
    (mss_cons (ms_set (i := 5) sc_pattern.nd (me_bm PySem.F.plainAttrs_str PySem.F.slot_str_removesuffix PySem.F.type_str_removesuffix mt_removesuffix rf_SS (me_bm PySem.F.plainAttrs_str PySem.F.slot_str_removeprefix PySem.F.type_str_removeprefix mt_removeprefix rf_SS (me_var 1) (ma_cons me_str ma_nil)) (ma_cons me_str ma_nil)))
    (mss_cons (ms_if (MW.mt (mw_or (mt_not (mt_truth (me_cal C_are_small callf_B (hr.mono (by decide)) (ma_cons (me_var 5) ma_nil)))) (mw_or1 (mt_cmp opr_gt rf_cmp (me_callB call_len rf_len T.z_len (by decide +kernel) (ma_cons (me_var 5) ma_nil)) (me_gI T.c_MOST_LETTERS) (nomark _)))))
    (mss_one (ms_ret (me_tup (ma_cons me_str (ma_cons (me_lst false ma_nil) ma_nil)))))
    mss_nil)
    (mss_frz 2 (mss_one (ms_ret (me_tup (ma_cons (me_var 1) (ma_cons (me_var 2) ma_nil))))))))))))
abbrev s_divided_word : Stmt := top 8
theorem sc_divided_word : FnScope ["text", "letters", "places", "part"] ["text"] (defScope s_divided_word) := ⟨rfl, rfl, rfl, by decide +kernel, rfl, by decide +kernel, by decide +kernel⟩
def b_divided_word : FS :=
    (sSeq (sAsg (mC (.str "")) (gNm 1))
    (sSeq (sAsg (mLst true mNil) (gNm 2))
    (sSeq (sFor (iAny (mBM "str" (gSplit false) (mVar 0) (mCons (mC (.str "-")) mNil))) (gNm 3)
    (sSeq (sIf (mNot (mTru (mCall (callB 1 m_are_small) (mCons (mVar 3) mNil))))
    (sRet (mTup (mCons (mC (.str "")) (mCons (mLst false mNil) mNil))))
    sNext)
    (sSeq (sAug 1 (mVar 3) gAddS)
    (sDrop (mBM "list" gAppend (mVar 2) (mCons (mCB cLen (mCons (mVar 1) mNil)) mNil))))))
    (sRet (mTup (mCons (mVar 1) (mCons (mSl false (mVar 2) mNoPart (mPart (mUn gNeg (mC (.int 1))))) mNil)))))))
def m_divided_word : List D → Sto → MM D := mDef 4 1 b_divided_word
theorem ok_divided_word {f : Addr} {fd : FuncData} (F : Fun K "_divided_word" "_divided_word" s_divided_word f fd) (T : Tx P w K mg base cs) (C_are_small : Cal P w K mg base 2 "are_small" ["text"] m_are_small) :
    FnOk P w K mg base CX0 3 f fd ["text"] (spM K 1 m_divided_word) :=
  fn_m F sc_divided_word fun cdv A outer s H E E' hr =>
    (mss_cons (ms_set (i := 1) sc_divided_word.nd me_str)
    (mss_cons (ms_set (i := 2) sc_divided_word.nd (me_lst true ma_nil))
    (mss_cons (ms_for PassesOwn.never rfl (mi_any (me_bm PySem.F.plainAttrs_str PySem.F.slot_str_split PySem.F.type_str_split mt_split (rf_split false) (me_var 0) (ma_cons me_str ma_nil))) (mg_name (i := 3) sc_divided_word.nd)
    (mss_cons (ms_if (mt_not (mt_truth (me_cal C_are_small callf_B (hr.mono (by decide)) (ma_cons (me_var 3) ma_nil))))
    (mss_one (ms_ret (me_tup (ma_cons me_str (ma_cons (me_lst false ma_nil) ma_nil)))))
    mss_nil)
    (mss_cons (ms_aug (i := 1) sc_divided_word.nd (me_var 3) ip_addS rip_addS)
    (mss_one (ms_expr (me_append (me_var 2) (ma_cons (me_callB call_len rf_len T.z_len (by decide +kernel) (ma_cons (me_var 1) ma_nil)) ma_nil)))))))
    (mss_one (ms_ret (me_tup (ma_cons (me_var 1) (ma_cons (me_sl false (me_var 2) mo_none (mo_some (me_neg me_int))) ma_nil))))))))
abbrev s_kept : Stmt := top 9
theorem sc_kept : FnScope ["places", "letters", "left", "right", "place"] ["places", "letters", "left", "right"] (defScope s_kept) := ⟨rfl, rfl, rfl, by decide +kernel, rfl, by decide +kernel, by decide +kernel⟩
def b_kept : FS :=
    (sRet (mLc false (iAny (mVar 0)) (gNm 4) (mB (mChain gLe gLe (mVar 2) (mVar 4) (mBin M.gSub (mCB cLen (mCons (mVar 1) mNil)) (mVar 3)))) (mVar 4) [4]))
def m_kept : List D → Sto → MM D := mDef 5 4 b_kept
theorem ok_kept {f : Addr} {fd : FuncData} (F : Fun K "_kept" "_kept" s_kept f fd) (T : Tx P w K mg base cs)  :
    FnOk P w K mg base CX0 1 f fd ["places", "letters", "left", "right"] (spM K 4 m_kept) :=
  fn_m F sc_kept fun cdv A outer s H E E' hr =>
    (mss_one (ms_ret (me_lcIf (own := [("place", 4)]) (g := gName 4) (E' := E') false rfl sc_kept.nd (mi_any (me_var 0)) (blkOk_by (own := [("place", 4)]) (N := ["places", "letters", "left", "right", "place"]) (sc := defScope s_kept) (by decide +kernel)) (fun _ _ _ _ _ => (pg_name (i := 4) sc_kept.nd rfl (Or.inl rfl))) (rgw_name 4) (fun _ _ _ _ _ => (mt_chain opr_le opr_le rf_cmp rf_cmp (me_var 2) (me_var 4) (me_sub (me_callB call_len rf_len T.z_len (by decide +kernel) (ma_cons (me_var 1) ma_nil)) (me_var 3)))) (fun _ _ _ _ _ => (me_var 4)))))
abbrev s_Divider_init : Stmt := inClass (top 10) 0
theorem sc_Divider_init : FnScope ["self", "hyphens", "patterns", "exceptions", "left", "right", "text", "signs", "numbers", "letters", "places"] ["self", "hyphens"] (defScope s_Divider_init) := ⟨rfl, rfl, rfl, by decide +kernel, rfl, by decide +kernel, by decide +kernel⟩
def b_Divider_init (cs : Cs) : FS :=
    (sSeq (sAsg (mSlT (mVar 1) (mPart (mC (.int 1))) mNoPart) (gTp 4 (gsCons (gNm 2) (gsCons (gNm 3) (gsCons (gNm 4) (gsCons (gNm 5) gsNil))))))
    (sSeq (sFldM (cs.C "Divider") "left" (mVar 0) (mVar 4))
    (sSeq (sFldM (cs.C "Divider") "right" (mVar 0) (mVar 5))
    (sSeq (sFldM (cs.C "Divider") "patterns" (mVar 0) mDNewK)
    (sSeq (sFldM (cs.C "Divider") "longest" (mVar 0) (mC (.int 0)))
    (sSeq (sFor (iAny (mVar 2)) (gNm 6)
    (sSeq (sAsg (mCall (callB 1 m_pattern) (mCons (mVar 6) mNil)) (gTp 2 (gsCons (gNm 7) (gsCons (gNm 8) gsNil))))
    (sSeq (M.sDPut (mFld (cs.C "Divider") "patterns" (mVar 0)) (mVar 7) (mVar 8))
    (sFldM (cs.C "Divider") "longest" (mVar 0) (mCB cMax2 (mCons (mFld (cs.C "Divider") "longest" (mVar 0)) (mCons (mCB cLen (mCons (mVar 7) mNil)) mNil)))))))
    (sSeq (sFldM (cs.C "Divider") "exceptions" (mVar 0) mDNewK)
    (sFor (iAny (mVar 3)) (gNm 6)
    (sSeq (sAsg (mCall (callB 1 m_divided_word) (mCons (mVar 6) mNil)) (gTp 2 (gsCons (gNm 9) (gsCons (gNm 10) gsNil))))
    (M.sDPut (mFld (cs.C "Divider") "exceptions" (mVar 0)) (mVar 9) (mVar 10)))))))))))
def m_Divider_init (cs : Cs) : List D → Sto → MM D := mDef 11 2 (b_Divider_init cs)
theorem ok_Divider_init {f : Addr} {fd : FuncData} (F : Fun K "__init__" "Divider.__init__" s_Divider_init f fd) (T : Tx P w K mg base cs) (C_pattern : Cal P w K mg base 3 "_pattern" ["text"] m_pattern) (C_divided_word : Cal P w K mg base 3 "_divided_word" ["text"] m_divided_word) :
    FnOk P w K mg base CX0 4 f fd ["self", "hyphens"] (spM K 2 (m_Divider_init cs)) :=
  fn_m F sc_Divider_init fun cdv A outer s H E E' hr =>
    (mss_cons (ms_asg (me_slT (me_var 1) (mo_some me_int) mo_none) (mg_tup rfl (mgs_cons (mg_name (i := 2) sc_Divider_init.nd) (mgs_cons (mg_name (i := 3) sc_Divider_init.nd) (mgs_cons (mg_name (i := 4) sc_Divider_init.nd) (mgs_cons (mg_name (i := 5) sc_Divider_init.nd) mgs_nil))))))
    (mss_cons (ms_fld (me_var 0) (me_var 4) T.cl_Divider T.na_Divider_left)
    (mss_cons (ms_fld (me_var 0) (me_var 5) T.cl_Divider T.na_Divider_right)
    (mss_cons (ms_fld (me_var 0) me_dnewK T.cl_Divider T.na_Divider_patterns)
    (mss_cons (ms_fld (me_var 0) me_int T.cl_Divider T.na_Divider_longest)
    (mss_cons (ms_for PassesOwn.never rfl (mi_any (me_var 2)) (mg_name (i := 6) sc_Divider_init.nd)
    (mss_cons (ms_asg (me_cal C_pattern callf_B (hr.mono (by decide)) (ma_cons (me_var 6) ma_nil)) (mg_tup rfl (mgs_cons (mg_name (i := 7) sc_Divider_init.nd) (mgs_cons (mg_name (i := 8) sc_Divider_init.nd) mgs_nil))))
    (mss_cons (ms_dput (hu_of hr) (me_fld (me_var 0) T.cl_Divider T.na_Divider_patterns) (me_var 7) (me_var 8))
    (mss_one (ms_fld (me_var 0) (me_callB (call_max2 rfl) rf_2I T.z_max (by decide +kernel) (ma_cons (me_fld (me_var 0) T.cl_Divider T.na_Divider_longest) (ma_cons (me_callB call_len rf_len T.z_len (by decide +kernel) (ma_cons (me_var 7) ma_nil)) ma_nil))) T.cl_Divider T.na_Divider_longest)))))
    (mss_cons (ms_fld (me_var 0) me_dnewK T.cl_Divider T.na_Divider_exceptions)
    (mss_one (ms_for PassesOwn.never rfl (mi_any (me_var 3)) (mg_name (i := 6) sc_Divider_init.nd)
    (mss_cons (ms_asg (me_cal C_divided_word callf_B (hr.mono (by decide)) (ma_cons (me_var 6) ma_nil)) (mg_tup rfl (mgs_cons (mg_name (i := 9) sc_Divider_init.nd) (mgs_cons (mg_name (i := 10) sc_Divider_init.nd) mgs_nil))))
    (mss_one (ms_dput (hu_of hr) (me_fld (me_var 0) T.cl_Divider T.na_Divider_exceptions) (me_var 9) (me_var 10)))))))))))))
abbrev s_letter_runs : Stmt := top 11
theorem sc_letter_runs : FnScope ["text", "runs", "start", "at", "sign"] ["text"] (defScope s_letter_runs) := ⟨rfl, rfl, rfl, by decide +kernel, rfl, by decide +kernel, by decide +kernel⟩
def b_letter_runs : FS :=
    (sSeq (sAsg (mLst true mNil) (gNm 1))
    (sSeq (sAsg (mC (.int 0)) (gNm 2))
    (sSeq (sFor (iES (mCons (mBin (gAdd false) (mVar 0) (mC (.str " "))) mNil)) (gTp 2 (gsCons (gNm 3) (gsCons (gNm 4) gsNil)))
    (sIf (mNot (mTru (mCall (callB 1 m_is_letter) (mCons (mVar 4) mNil))))
    (sSeq (sIf (mB (mBin gLt (mVar 2) (mVar 3)))
    (sDrop (mBM "list" gAppend (mVar 1) (mCons (mTup (mCons (mVar 2) (mCons (mBM0 "str" gLower (mSl false (mVar 0) (mPart (mVar 2)) (mPart (mVar 3)))) mNil))) mNil)))
    sNext)
    (sAsg (mBin (gAdd false) (mVar 3) (mC (.int 1))) (gNm 2)))
    sNext))
    (sFrz 1 (sRet (mVar 1))))))
def m_letter_runs : List D → Sto → MM D := mDef 5 1 b_letter_runs
theorem ok_letter_runs {f : Addr} {fd : FuncData} (F : Fun K "_letter_runs" "_letter_runs" s_letter_runs f fd) (T : Tx P w K mg base cs) (C_is_letter : Cal P w K mg base 1 "is_letter" ["sign"] m_is_letter) :
    FnOk P w K mg base CX0 2 f fd ["text"] (spM K 1 m_letter_runs) :=
  fn_m F sc_letter_runs fun cdv A outer s H E E' hr =>
    (mss_cons (ms_set (i := 1) sc_letter_runs.nd (me_lst true ma_nil))
    (mss_cons (ms_set (i := 2) sc_letter_runs.nd me_int)
    (mss_cons (ms_for PassesOwn.never rfl (mi_enumS (ma_cons (me_add false (me_var 0) me_str) ma_nil) T.z_enumerate) (mg_tup rfl (mgs_cons (mg_name (i := 3) sc_letter_runs.nd) (mgs_cons (mg_name (i := 4) sc_letter_runs.nd) mgs_nil)))
    (mss_one (ms_if (mt_not (mt_truth (me_cal C_is_letter callf_B (hr.mono (by decide)) (ma_cons (me_var 4) ma_nil))))
    (mss_cons (ms_if (mt_cmp opr_lt rf_cmp (me_var 2) (me_var 3) (nomark _))
    (mss_one (ms_expr (me_append (me_var 1) (ma_cons (me_tup (ma_cons (me_var 2) (ma_cons (me_bm0 PySem.F.plainAttrs_str PySem.F.slot_str_lower PySem.F.type_str_lower mt_lower rf_lower (me_sl false (me_var 0) (mo_some (me_var 2)) (mo_some (me_var 3)))) ma_nil))) ma_nil))))
    mss_nil)
    (mss_one (ms_set (i := 2) sc_letter_runs.nd (me_add false (me_var 3) me_int))))
    mss_nil)))
    (mss_frz 1 (mss_one (ms_ret (me_var 1)))))))
abbrev s_Divider_odd_places : Stmt := inClass (top 10) 2
theorem sc_Divider_odd_places : FnScope ["self", "letters", "dotted", "greatest", "start", "end", "numbers", "at", "number", "place"] ["self", "letters"] (defScope s_Divider_odd_places) := ⟨rfl, rfl, rfl, by decide +kernel, rfl, by decide +kernel, by decide +kernel⟩
def b_Divider_odd_places (cs : Cs) : FS :=
    (sSeq (sAsg (mBin (gAdd false) (mBin (gAdd false) (mC (.str ".")) (mVar 1)) (mC (.str "."))) (gNm 2))
    (sSeq (sAsg (mBin (gRep true) (mLst false (mCons (mC (.int 0)) mNil)) (mBin (gAdd false) (mCB cLen (mCons (mVar 2) mNil)) (mC (.int 1)))) (gNm 3))
    (sSeq (sFor (iR1 (mCons (mCB cLen (mCons (mVar 2) mNil)) mNil)) (gNm 4)
    (sFor (iR2 (mCons (mBin (gAdd false) (mVar 4) (mC (.int 1))) (mCons (mBin (gAdd false) (mCB cMin2 (mCons (mBin (gAdd false) (mVar 4) (mFld (cs.C "Divider") "longest" (mVar 0))) (mCons (mCB cLen (mCons (mVar 2) mNil)) mNil))) (mC (.int 1))) mNil))) (gNm 5)
    (sSeq (sAsg (mDGet2 (mFld (cs.C "Divider") "patterns" (mVar 0)) (mSl false (mVar 2) (mPart (mVar 4)) (mPart (mVar 5))) (mTup mNil)) (gNm 6))
    (sFor (iE2 (mCons (mVar 6) mNil)) (gTp 2 (gsCons (gNm 7) (gsCons (gNm 8) gsNil)))
    (sAsg (mCB cMax2 (mCons (mBin gIx (mVar 3) (mBin (gAdd false) (mVar 4) (mVar 7))) (mCons (mVar 8) mNil))) (gSet (mVar 3) (mBin (gAdd false) (mVar 4) (mVar 7)) gSetL))))))
    (sRet (mLc false (iR2 (mCons (mC (.int 1)) (mCons (mCB cLen (mCons (mVar 1) mNil)) mNil))) (gNm 9) (mB (mBin gEq (mBin M.gMod (mBin gIx (mVar 3) (mBin (gAdd false) (mVar 9) (mC (.int 1)))) (mC (.int 2))) (mC (.int 1)))) (mVar 9) [9])))))
def m_Divider_odd_places (cs : Cs) : List D → Sto → MM D := mDef 10 2 (b_Divider_odd_places cs)
theorem ok_Divider_odd_places {f : Addr} {fd : FuncData} (F : Fun K "_odd_places" "Divider._odd_places" s_Divider_odd_places f fd) (T : Tx P w K mg base cs)  :
    FnOk P w K mg base CX0 1 f fd ["self", "letters"] (spM K 2 (m_Divider_odd_places cs)) :=
  fn_m F sc_Divider_odd_places fun cdv A outer s H E E' hr =>
    (mss_cons (ms_set (i := 2) sc_Divider_odd_places.nd (me_add false (me_add false me_str (me_var 1)) me_str))
    (mss_cons (ms_set (i := 3) sc_Divider_odd_places.nd (me_rep true (me_lst false (ma_cons me_int ma_nil)) (me_add false (me_callB call_len rf_len T.z_len (by decide +kernel) (ma_cons (me_var 2) ma_nil)) me_int)))
    (mss_cons (ms_for PassesOwn.never rfl (mi_range1 (ma_cons (me_callB call_len rf_len T.z_len (by decide +kernel) (ma_cons (me_var 2) ma_nil)) ma_nil) T.z_range) (mg_name (i := 4) sc_Divider_odd_places.nd)
    (mss_one (ms_for PassesOwn.never rfl (mi_range2 (ma_cons (me_add false (me_var 4) me_int) (ma_cons (me_add false (me_callB (call_min2 rfl) rf_2I T.z_min (by decide +kernel) (ma_cons (me_add false (me_var 4) (me_fld (me_var 0) T.cl_Divider T.na_Divider_longest)) (ma_cons (me_callB call_len rf_len T.z_len (by decide +kernel) (ma_cons (me_var 2) ma_nil)) ma_nil))) me_int) ma_nil)) T.z_range) (mg_name (i := 5) sc_Divider_odd_places.nd)
    (mss_cons (ms_set (i := 6) sc_Divider_odd_places.nd (me_dget2 (hu_of hr) (me_fld (me_var 0) T.cl_Divider T.na_Divider_patterns) (me_sl false (me_var 2) (mo_some (me_var 4)) (mo_some (me_var 5))) (me_tup ma_nil) ⟨by rfl, by rfl, by rfl, by rfl⟩))
    (mss_one (ms_for PassesOwn.never rfl (mi_enum2 (ma_cons (me_var 6) ma_nil) T.z_enumerate) (mg_tup rfl (mgs_cons (mg_name (i := 7) sc_Divider_odd_places.nd) (mgs_cons (mg_name (i := 8) sc_Divider_odd_places.nd) mgs_nil)))
    (mss_one (ms_asg (me_callB (call_max2 rfl) rf_2I T.z_max (by decide +kernel) (ma_cons (me_ix (me_var 3) (me_add false (me_var 4) (me_var 7))) (ma_cons (me_var 8) ma_nil))) (mg_sub (me_var 3) (me_add false (me_var 4) (me_var 7)) set_list rf_setL)))))))))
    (mss_one (ms_ret (me_lcIf (own := [("place", 9)]) (g := gName 9) (E' := E') false rfl sc_Divider_odd_places.nd (mi_range2 (ma_cons me_int (ma_cons (me_callB call_len rf_len T.z_len (by decide +kernel) (ma_cons (me_var 1) ma_nil)) ma_nil)) T.z_range) (blkOk_by (own := [("place", 9)]) (N := ["self", "letters", "dotted", "greatest", "start", "end", "numbers", "at", "number", "place"]) (sc := defScope s_Divider_odd_places) (by decide +kernel)) (fun _ _ _ _ _ => (pg_name (i := 9) sc_Divider_odd_places.nd rfl (Or.inl rfl))) (rgw_name 9) (fun _ _ _ _ _ => (mt_cmp op_eq rf_eq (me_mod (me_ix (me_var 3) (me_add false (me_var 9) me_int)) me_int) me_int (nomark _))) (fun _ _ _ _ _ => (me_var 9))))))))
abbrev s_Divider_points : Stmt := inClass (top 10) 1
theorem sc_Divider_points : FnScope ["self", "word", "found", "start", "letters", "places", "place"] ["self", "word"] (defScope s_Divider_points) := ⟨rfl, rfl, rfl, by decide +kernel, rfl, by decide +kernel, by decide +kernel⟩
def b_Divider_points (cs : Cs) : FS :=
    (sSeq (sAsg (mLst true mNil) (gNm 2))
    (sSeq (sFor (iAny (mCall (callB 1 m_letter_runs) (mCons (mVar 1) mNil))) (gTp 2 (gsCons (gNm 3) (gsCons (gNm 4) gsNil)))
    (sSeq (sIf (mB (mDIn false (mVar 4) (mFld (cs.C "Divider") "exceptions" (mVar 0))))
    (sAsg (mDGet (mFld (cs.C "Divider") "exceptions" (mVar 0)) (mVar 4)) (gNm 5))
    (sAsg (mMeth (cs.C "Divider") "_odd_places" (callA 2 (m_Divider_odd_places cs)) (mVar 0) (mCons (mVar 4) mNil)) (gNm 5)))
    (sFor (iAny (mCall (callB 4 m_kept) (mCons (mVar 5) (mCons (mVar 4) (mCons (mFld (cs.C "Divider") "left" (mVar 0)) (mCons (mFld (cs.C "Divider") "right" (mVar 0)) mNil)))))) (gNm 6)
    (sDrop (mBM "list" gAppend (mVar 2) (mCons (mBin (gAdd false) (mVar 3) (mVar 6)) mNil))))))
    (sFrz 2 (sRet (mVar 2)))))
def m_Divider_points (cs : Cs) : List D → Sto → MM D := mDef 7 2 (b_Divider_points cs)
theorem ok_Divider_points {f : Addr} {fd : FuncData} (F : Fun K "points" "Divider.points" s_Divider_points f fd) (T : Tx P w K mg base cs) (C_letter_runs : Cal P w K mg base 2 "_letter_runs" ["text"] m_letter_runs) (C_Divider_odd_places : CalM P w K mg base 1 (cs.C "Divider") "_odd_places" ["self", "letters"] (m_Divider_odd_places cs)) (C_kept : Cal P w K mg base 1 "_kept" ["places", "letters", "left", "right"] m_kept) :
    FnOk P w K mg base CX0 3 f fd ["self", "word"] (spM K 2 (m_Divider_points cs)) :=
  fn_m F sc_Divider_points fun cdv A outer s H E E' hr =>
    (mss_cons (ms_set (i := 2) sc_Divider_points.nd (me_lst true ma_nil))
    (mss_cons (ms_for PassesOwn.never rfl (mi_any (me_cal C_letter_runs callf_B (hr.mono (by decide)) (ma_cons (me_var 1) ma_nil))) (mg_tup rfl (mgs_cons (mg_name (i := 3) sc_Divider_points.nd) (mgs_cons (mg_name (i := 4) sc_Divider_points.nd) mgs_nil)))
    (mss_cons (ms_if (mt_din (hu_of hr) (me_var 4) (me_fld (me_var 0) T.cl_Divider T.na_Divider_exceptions))
    (mss_one (ms_set (i := 5) sc_Divider_points.nd (me_dget (hu_of hr) (me_fld (me_var 0) T.cl_Divider T.na_Divider_exceptions) (me_var 4))))
    (mss_one (ms_set (i := 5) sc_Divider_points.nd (me_meth (me_var 0) T.cl_Divider C_Divider_odd_places callf_A (hr.mono (by decide)) (ma_cons (me_var 4) ma_nil)))))
    (mss_one (ms_for PassesOwn.never rfl (mi_any (me_cal C_kept callf_B (hr.mono (by decide)) (ma_cons (me_var 5) (ma_cons (me_var 4) (ma_cons (me_fld (me_var 0) T.cl_Divider T.na_Divider_left) (ma_cons (me_fld (me_var 0) T.cl_Divider T.na_Divider_right) ma_nil)))))) (mg_name (i := 6) sc_Divider_points.nd)
    (mss_one (ms_expr (me_append (me_var 2) (ma_cons (me_add false (me_var 3) (me_var 6)) ma_nil))))))))
    (mss_frz 2 (mss_one (ms_ret (me_var 2))))))
abbrev s_points : Stmt := top 12
theorem sc_points : FnScope ["hyphens", "word"] ["hyphens", "word"] (defScope s_points) := ⟨rfl, rfl, rfl, by decide +kernel, rfl, by decide +kernel, by decide +kernel⟩
def b_points (cs : Cs) : FS :=
    (sRet (mMeth (cs.C "Divider") "points" (callA 2 (m_Divider_points cs)) (mMake (cs.C "Divider") (callA 2 (m_Divider_init cs)) (mCons (mVar 0) mNil)) (mCons (mVar 1) mNil)))
def m_points (cs : Cs) : List D → Sto → MM D := mDef 2 2 (b_points cs)
theorem ok_points {f : Addr} {fd : FuncData} (F : Fun K "points" "points" s_points f fd) (T : Tx P w K mg base cs) (C_Divider_points : CalM P w K mg base 3 (cs.C "Divider") "points" ["self", "word"] (m_Divider_points cs)) (C_Divider_init : CalI P w K mg base 4 (cs.C "Divider") "Divider" ["self", "hyphens"] (m_Divider_init cs)) :
    FnOk P w K mg base CX0 6 f fd ["hyphens", "word"] (spM K 2 (m_points cs)) :=
  fn_m F sc_points fun cdv A outer s H E E' hr =>
    (mss_one (ms_ret (me_meth (me_make C_Divider_init callf_A (hr.mono (by decide)) (ma_cons (me_var 0) ma_nil)) T.cl_Divider C_Divider_points callf_A (hr.mono (by decide)) (ma_cons (me_var 1) ma_nil))))
abbrev s_divided : Stmt := top 13
theorem sc_divided : FnScope ["word", "places", "parts", "start", "place"] ["word", "places"] (defScope s_divided) := ⟨rfl, rfl, rfl, by decide +kernel, rfl, by decide +kernel, by decide +kernel⟩
def b_divided : FS :=
    (sSeq (sAsg (mLst true mNil) (gNm 2))
    (sSeq (sAsg (mC (.int 0)) (gNm 3))
    (sSeq (sFor (iAny (mVar 1)) (gNm 4)
    (sSeq (sDrop (mBM "list" gAppend (mVar 2) (mCons (mSl false (mVar 0) (mPart (mVar 3)) (mPart (mVar 4))) mNil)))
    (sAsg (mVar 4) (gNm 3))))
    (sSeq (sDrop (mBM "list" gAppend (mVar 2) (mCons (mSl false (mVar 0) (mPart (mVar 3)) mNoPart) mNil)))
    (sFrz 2 (sRet (mVar 2)))))))
def m_divided : List D → Sto → MM D := mDef 5 2 b_divided
theorem ok_divided {f : Addr} {fd : FuncData} (F : Fun K "divided" "divided" s_divided f fd) (T : Tx P w K mg base cs)  :
    FnOk P w K mg base CX0 1 f fd ["word", "places"] (spM K 2 m_divided) :=
  fn_m F sc_divided fun cdv A outer s H E E' hr =>
    (mss_cons (ms_set (i := 2) sc_divided.nd (me_lst true ma_nil))
    (mss_cons (ms_set (i := 3) sc_divided.nd me_int)
    (mss_cons (ms_for PassesOwn.never rfl (mi_any (me_var 1)) (mg_name (i := 4) sc_divided.nd)
    (mss_cons (ms_expr (me_append (me_var 2) (ma_cons (me_sl false (me_var 0) (mo_some (me_var 3)) (mo_some (me_var 4))) ma_nil)))
    (mss_one (ms_set (i := 3) sc_divided.nd (me_var 4)))))
    (mss_cons (ms_expr (me_append (me_var 2) (ma_cons (me_sl false (me_var 0) (mo_some (me_var 3)) mo_none) ma_nil)))
    (mss_frz 2 (mss_one (ms_ret (me_var 2))))))))
abbrev s_law_numbers : Stmt := top 15
theorem sc_law_numbers : FnScope ["script", "row", "cell", "k", "seed"] ["script"] (defScope s_law_numbers) := ⟨rfl, rfl, rfl, by decide +kernel, rfl, by decide +kernel, by decide +kernel⟩
def b_law_numbers : FS :=
    (sSeq (sAsg (mLst true mNil) (gNm 1))
    (sSeq (sFor (iAny (mSl false (mVar 0) mNoPart (mPart (mC (.int 63))))) (gNm 2)
    (sIf (mB (mBin gGe (mVar 2) (mBin M.gPow (mC (.int 10)) (mC (.int 18)))))
    (sFor (iR1 (mCons (mC (.int 60)) mNil)) (gNm 3)
    (sIf (mB (mBin gGt (mVar 2) (mC (.int 0))))
    (sSeq (sDrop (mBM "list" gAppend (mVar 1) (mCons (mBin M.gMod (mCB cInt (mCons (mVar 2) mNil)) (mC (.int 1000))) mNil)))
    (sAsg (mBin M.gDiv (mVar 2) (mC (.int 1000))) (gNm 2)))
    sNext))
    (sSeq (sAsg (mBin M.gMod (mCB cInt (mCons (mBin (gAdd false) (mBin M.gMul (mVar 2) (mC (.int 48271))) (mC (.int 11))) mNil)) (mC (.int 2147483647))) (gNm 4))
    (sFor (iR1 (mCons (mC (.int 9)) mNil)) (gNm 3)
    (sSeq (sAsg (mBin M.gMod (mCB cInt (mCons (mBin (gAdd false) (mBin (gAdd false) (mBin M.gMul (mVar 4) (mC (.int 69621))) (mBin M.gMul (mC (.int 7)) (mVar 3))) (mC (.int 1))) mNil)) (mC (.int 2147483647))) (gNm 4))
    (sDrop (mBM "list" gAppend (mVar 1) (mCons (mBin M.gMod (mCB cInt (mCons (mBin (gAdd false) (mBin M.gMul (mBin M.gMod (mCB cInt (mCons (mVar 4) mNil)) (mC (.int 1000003))) (mC (.int 7919))) (mBin M.gDiv (mVar 4) (mC (.int 1009)))) mNil)) (mC (.int 1000))) mNil))))))))
    (sSeq (sAsg (mSl true (mVar 1) mNoPart (mPart (mC (.int 300)))) (gNm 1))
    (sSeq (sDrop (mBM0 "list" gReverse (mVar 1)))
    (sRet (mVar 1))))))
def m_law_numbers : List D → Sto → MM D := mDef 5 1 b_law_numbers
theorem ok_law_numbers {f : Addr} {fd : FuncData} (F : Fun K "_law_numbers" "_law_numbers" s_law_numbers f fd) (T : Tx P w K mg base cs)  :
    FnOk P w K mg base CX0 1 f fd ["script"] (spM K 1 m_law_numbers) :=
  fn_m F sc_law_numbers fun cdv A outer s H E E' hr =>
    (mss_cons (ms_set (i := 1) sc_law_numbers.nd (me_lst true ma_nil))
    (mss_cons (ms_for PassesOwn.never rfl (mi_any (me_sl false (me_var 0) mo_none (mo_some me_int))) (mg_name (i := 2) sc_law_numbers.nd)
    (mss_one (ms_if (mt_cmp opr_ge rf_cmp (me_var 2) (me_pow me_int me_int) (nomark _))
    (mss_one (ms_for PassesOwn.never rfl (mi_range1 (ma_cons me_int ma_nil) T.z_range) (mg_name (i := 3) sc_law_numbers.nd)
    (mss_one (ms_if (mt_cmp opr_gt rf_cmp (me_var 2) me_int (nomark _))
    (mss_cons (ms_expr (me_append (me_var 1) (ma_cons (me_mod (me_callTy call_int1 rf_int T.z_int (by decide +kernel) (ma_cons (me_var 2) ma_nil)) me_int) ma_nil)))
    (mss_one (ms_set (i := 2) sc_law_numbers.nd (me_div (me_var 2) me_int))))
    mss_nil))))
    (mss_cons (ms_set (i := 4) sc_law_numbers.nd (me_mod (me_callTy call_int1 rf_int T.z_int (by decide +kernel) (ma_cons (me_add false (me_mul (me_var 2) me_int) me_int) ma_nil)) me_int))
    (mss_one (ms_for PassesOwn.never rfl (mi_range1 (ma_cons me_int ma_nil) T.z_range) (mg_name (i := 3) sc_law_numbers.nd)
    (mss_cons (ms_set (i := 4) sc_law_numbers.nd (me_mod (me_callTy call_int1 rf_int T.z_int (by decide +kernel) (ma_cons (me_add false (me_add false (me_mul (me_var 4) me_int) (me_mul me_int (me_var 3))) me_int) ma_nil)) me_int))
    (mss_one (ms_expr (me_append (me_var 1) (ma_cons (me_mod (me_callTy call_int1 rf_int T.z_int (by decide +kernel) (ma_cons (me_add false (me_mul (me_mod (me_callTy call_int1 rf_int T.z_int (by decide +kernel) (ma_cons (me_var 4) ma_nil)) me_int) me_int) (me_div (me_var 4) me_int)) ma_nil)) me_int) ma_nil)))))))))))
    (mss_cons (ms_set (i := 1) sc_law_numbers.nd (me_sl true (me_var 1) mo_none (mo_some me_int)))
    (mss_cons (ms_expr (me_reverse (me_var 1)))
    (mss_one (ms_ret (me_var 1)))))))
abbrev s_law_pick : Stmt := top 16
theorem sc_law_pick : FnScope ["feed", "many"] ["feed", "many"] (defScope s_law_pick) := ⟨rfl, rfl, rfl, by decide +kernel, rfl, by decide +kernel, by decide +kernel⟩
def b_law_pick : FS :=
    (sSeq (sIf (mB (mBin gEq (mCB cLen (mCons (mVar 0) mNil)) (mC (.int 0))))
    (sRet (mC (.int 0)))
    sNext)
    (sRet (mBin M.gMod (mCB cInt (mCons (mBM0 "list" gPop (mVar 0)) mNil)) (mVar 1))))
def m_law_pick : List D → Sto → MM D := mDef 2 2 b_law_pick
theorem ok_law_pick {f : Addr} {fd : FuncData} (F : Fun K "_law_pick" "_law_pick" s_law_pick f fd) (T : Tx P w K mg base cs)  :
    FnOk P w K mg base CX0 1 f fd ["feed", "many"] (spM K 2 m_law_pick) :=
  fn_m F sc_law_pick fun cdv A outer s H E E' hr =>
    (mss_cons (ms_if (mt_cmp op_eq rf_eq (me_callB call_len rf_len T.z_len (by decide +kernel) (ma_cons (me_var 0) ma_nil)) me_int (nomark _))
    (mss_one (ms_ret me_int))
    mss_nil)
    (mss_one (ms_ret (me_mod (me_callTy call_int1 rf_int T.z_int (by decide +kernel) (ma_cons (me_pop (me_var 0)) ma_nil)) (me_var 1)))))
abbrev s_law_signs : Stmt := top 17
theorem sc_law_signs : FnScope ["feed", "signs", "k", "kind"] ["feed"] (defScope s_law_signs) := ⟨rfl, rfl, rfl, by decide +kernel, rfl, by decide +kernel, by decide +kernel⟩
def b_law_signs : FS :=
    (sSeq (sAsg (mBM "str" gJoin (mC (.str "")) (mCons (mLc false (iR1 (mCons (mBin (gAdd false) (mC (.int 1)) (mCall (callB 2 m_law_pick) (mCons (mVar 0) (mCons (mC (.int 4)) mNil)))) mNil)) (gNm 2) tYesD (mBin gIx (mC (.str "abcab")) (mCall (callB 2 m_law_pick) (mCons (mVar 0) (mCons (mC (.int 5)) mNil)))) [2]) mNil)) (gNm 1))
    (sSeq (sAsg (mCall (callB 2 m_law_pick) (mCons (mVar 0) (mCons (mC (.int 5)) mNil))) (gNm 3))
    (sSeq (sIf (mB (mBin gEq (mVar 3) (mC (.int 1))))
    (sAsg (mBin (gAdd false) (mC (.str ".")) (mVar 1)) (gNm 1))
    sNext)
    (sSeq (sIf (mB (mBin gEq (mVar 3) (mC (.int 2))))
    (sAsg (mBin (gAdd false) (mVar 1) (mC (.str "."))) (gNm 1))
    sNext)
    (sSeq (sIf (mB (mBin gEq (mVar 3) (mC (.int 3))))
    (sAsg (mBin (gAdd false) (mBin (gAdd false) (mC (.str ".")) (mVar 1)) (mC (.str "."))) (gNm 1))
    sNext)
    (sRet (mVar 1)))))))
def m_law_signs : List D → Sto → MM D := mDef 4 1 b_law_signs
theorem ok_law_signs {f : Addr} {fd : FuncData} (F : Fun K "_law_signs" "_law_signs" s_law_signs f fd) (T : Tx P w K mg base cs) (C_law_pick : Cal P w K mg base 1 "_law_pick" ["feed", "many"] m_law_pick) :
    FnOk P w K mg base CX0 2 f fd ["feed"] (spM K 1 m_law_signs) :=
  fn_m F sc_law_signs fun cdv A outer s H E E' hr =>
    (mss_cons (ms_set (i := 1) sc_law_signs.nd (me_bm PySem.F.plainAttrs_str PySem.F.slot_str_join PySem.F.type_str_join mt_join rf_join me_str (ma_cons (me_lc (own := [("k", 2)]) (g := gName 2) (E' := E') false rfl sc_law_signs.nd (mi_range1 (ma_cons (me_add false me_int (me_cal C_law_pick callf_B (hr.mono (by decide)) (ma_cons (me_var 0) (ma_cons me_int ma_nil)))) ma_nil) T.z_range) (blkOk_by (own := [("k", 2)]) (N := ["feed", "signs", "k", "kind"]) (sc := defScope s_law_signs) (by decide +kernel)) (fun _ _ _ _ _ => (pg_name (i := 2) sc_law_signs.nd rfl (Or.inl rfl))) (rgw_name 2) (fun _ _ _ _ _ => (me_ix me_str (me_cal C_law_pick callf_B (hr.mono (by decide)) (ma_cons (me_var 0) (ma_cons me_int ma_nil)))))) ma_nil)))
    (mss_cons (ms_set (i := 3) sc_law_signs.nd (me_cal C_law_pick callf_B (hr.mono (by decide)) (ma_cons (me_var 0) (ma_cons me_int ma_nil))))
    (mss_cons (ms_if (mt_cmp op_eq rf_eq (me_var 3) me_int (nomark _))
    (mss_one (ms_set (i := 1) sc_law_signs.nd (me_add false me_str (me_var 1))))
    mss_nil)
    (mss_cons (ms_if (mt_cmp op_eq rf_eq (me_var 3) me_int (nomark _))
    (mss_one (ms_set (i := 1) sc_law_signs.nd (me_add false (me_var 1) me_str)))
    mss_nil)
    (mss_cons (ms_if (mt_cmp op_eq rf_eq (me_var 3) me_int (nomark _))
    (mss_one (ms_set (i := 1) sc_law_signs.nd (me_add false (me_add false me_str (me_var 1)) me_str)))
    mss_nil)
    (mss_one (ms_ret (me_var 1))))))))
abbrev s_law_pattern : Stmt := top 18
theorem sc_law_pattern : FnScope ["feed", "signs", "text", "char", "number"] ["feed", "signs"] (defScope s_law_pattern) := ⟨rfl, rfl, rfl, by decide +kernel, rfl, by decide +kernel, by decide +kernel⟩
def b_law_pattern : FS :=
    (sSeq (sAsg (mC (.str "")) (gNm 2))
    (sSeq (sFor (iAny (mBin (gAdd false) (mVar 1) (mC (.str "|")))) (gNm 3)
    (sSeq (sAsg (mBin gIx (mLst false (mCons (mC (.int 0)) (mCons (mC (.int 0)) (mCons (mC (.int 1)) (mCons (mC (.int 2)) (mCons (mC (.int 3)) (mCons (mC (.int 4)) (mCons (mC (.int 9)) (mCons (mC (.int 0)) mNil))))))))) (mCall (callB 2 m_law_pick) (mCons (mVar 0) (mCons (mC (.int 8)) mNil)))) (gNm 4))
    (sSeq (sIf (mOr (mB (mBin gGt (mVar 4) (mC (.int 0)))) (mB (mBin gEq (mCall (callB 2 m_law_pick) (mCons (mVar 0) (mCons (mC (.int 19)) mNil))) (mC (.int 1)))))
    (sAsg (mBin (gAdd false) (mVar 2) (mCB cStrI (mCons (mVar 4) mNil))) (gNm 2))
    sNext)
    (sIf (mB (mBin gNe (mVar 3) (mC (.str "|"))))
    (sAsg (mBin (gAdd false) (mVar 2) (mVar 3)) (gNm 2))
    sNext))))
    (sRet (mVar 2))))
def m_law_pattern : List D → Sto → MM D := mDef 5 2 b_law_pattern
theorem ok_law_pattern {f : Addr} {fd : FuncData} (F : Fun K "_law_pattern" "_law_pattern" s_law_pattern f fd) (T : Tx P w K mg base cs) (C_law_pick : Cal P w K mg base 1 "_law_pick" ["feed", "many"] m_law_pick) :
    FnOk P w K mg base CX0 2 f fd ["feed", "signs"] (spM K 2 m_law_pattern) :=
  fn_m F sc_law_pattern fun cdv A outer s H E E' hr =>
    (mss_cons (ms_set (i := 2) sc_law_pattern.nd me_str)
    (mss_cons (ms_for PassesOwn.never rfl (mi_any (me_add false (me_var 1) me_str)) (mg_name (i := 3) sc_law_pattern.nd)
    (mss_cons (ms_set (i := 4) sc_law_pattern.nd (me_ix (me_lst false (ma_cons me_int (ma_cons me_int (ma_cons me_int (ma_cons me_int (ma_cons me_int (ma_cons me_int (ma_cons me_int (ma_cons me_int ma_nil))))))))) (me_cal C_law_pick callf_B (hr.mono (by decide)) (ma_cons (me_var 0) (ma_cons me_int ma_nil)))))
    (mss_cons (ms_if (MW.mt (mw_or (mt_cmp opr_gt rf_cmp (me_var 4) me_int (nomark _)) (mw_or1 (mt_cmp op_eq rf_eq (me_cal C_law_pick callf_B (hr.mono (by decide)) (ma_cons (me_var 0) (ma_cons me_int ma_nil))) me_int (nomark _)))))
    (mss_one (ms_set (i := 2) sc_law_pattern.nd (me_add false (me_var 2) (me_callTy call_str_int rf_strI T.z_str (by decide +kernel) (ma_cons (me_var 4) ma_nil)))))
    mss_nil)
    (mss_one (ms_if (mt_cmp op_ne rf_ne (me_var 3) me_str (nomark _))
    (mss_one (ms_set (i := 2) sc_law_pattern.nd (me_add false (me_var 2) (me_var 3))))
    mss_nil)))))
    (mss_one (ms_ret (me_var 2)))))
abbrev s_law_patterns : Stmt := top 19
theorem sc_law_patterns : FnScope ["feed", "most", "known", "rows", "k", "signs"] ["feed", "most"] (defScope s_law_patterns) := ⟨rfl, rfl, rfl, by decide +kernel, rfl, by decide +kernel, by decide +kernel⟩
def b_law_patterns : FS :=
    (sSeq (sAsg (mLst true mNil) (gNm 2))
    (sSeq (sAsg (mLst true mNil) (gNm 3))
    (sSeq (sFor (iR1 (mCons (mCall (callB 2 m_law_pick) (mCons (mVar 0) (mCons (mVar 1) mNil))) mNil)) (gNm 4)
    (sSeq (sAsg (mCall (callB 1 m_law_signs) (mCons (mVar 0) mNil)) (gNm 5))
    (sIf (mB (mBin (gIn true) (mVar 5) (mVar 2)))
    (sSeq (sDrop (mBM "list" gAppend (mVar 2) (mCons (mVar 5) mNil)))
    (sDrop (mBM "list" gAppend (mVar 3) (mCons (mCall (callB 2 m_law_pattern) (mCons (mVar 0) (mCons (mVar 5) mNil))) mNil))))
    sNext)))
    (sFrz 3 (sRet (mVar 3))))))
def m_law_patterns : List D → Sto → MM D := mDef 6 2 b_law_patterns
theorem ok_law_patterns {f : Addr} {fd : FuncData} (F : Fun K "_law_patterns" "_law_patterns" s_law_patterns f fd) (T : Tx P w K mg base cs) (C_law_pick : Cal P w K mg base 1 "_law_pick" ["feed", "many"] m_law_pick) (C_law_signs : Cal P w K mg base 2 "_law_signs" ["feed"] m_law_signs) (C_law_pattern : Cal P w K mg base 2 "_law_pattern" ["feed", "signs"] m_law_pattern) :
    FnOk P w K mg base CX0 3 f fd ["feed", "most"] (spM K 2 m_law_patterns) :=
  fn_m F sc_law_patterns fun cdv A outer s H E E' hr =>
    (mss_cons (ms_set (i := 2) sc_law_patterns.nd (me_lst true ma_nil))
    (mss_cons (ms_set (i := 3) sc_law_patterns.nd (me_lst true ma_nil))
    (mss_cons (ms_for PassesOwn.never rfl (mi_range1 (ma_cons (me_cal C_law_pick callf_B (hr.mono (by decide)) (ma_cons (me_var 0) (ma_cons (me_var 1) ma_nil))) ma_nil) T.z_range) (mg_name (i := 4) sc_law_patterns.nd)
    (mss_cons (ms_set (i := 5) sc_law_patterns.nd (me_cal C_law_signs callf_B (hr.mono (by decide)) (ma_cons (me_var 0) ma_nil)))
    (mss_one (ms_if (mt_cmp opr_notin (rf_in true) (me_var 5) (me_var 2) rfl)
    (mss_cons (ms_expr (me_append (me_var 2) (ma_cons (me_var 5) ma_nil)))
    (mss_one (ms_expr (me_append (me_var 3) (ma_cons (me_cal C_law_pattern callf_B (hr.mono (by decide)) (ma_cons (me_var 0) (ma_cons (me_var 5) ma_nil))) ma_nil)))))
    mss_nil))))
    (mss_frz 3 (mss_one (ms_ret (me_var 3)))))))
abbrev s_law_exceptions : Stmt := top 20
theorem sc_law_exceptions : FnScope ["feed", "most", "known", "rows", "k", "word", "j", "marked", "char"] ["feed", "most"] (defScope s_law_exceptions) := ⟨rfl, rfl, rfl, by decide +kernel, rfl, by decide +kernel, by decide +kernel⟩
def b_law_exceptions : FS :=
    (sSeq (sAsg (mLst true mNil) (gNm 2))
    (sSeq (sAsg (mLst true mNil) (gNm 3))
    (sSeq (sFor (iR1 (mCons (mCall (callB 2 m_law_pick) (mCons (mVar 0) (mCons (mVar 1) mNil))) mNil)) (gNm 4)
    (sSeq (sAsg (mBM "str" gJoin (mC (.str "")) (mCons (mLc false (iR1 (mCons (mBin (gAdd false) (mC (.int 1)) (mCall (callB 2 m_law_pick) (mCons (mVar 0) (mCons (mC (.int 6)) mNil)))) mNil)) (gNm 6) tYesD (mBin gIx (mC (.str "abcab")) (mCall (callB 2 m_law_pick) (mCons (mVar 0) (mCons (mC (.int 5)) mNil)))) [6]) mNil)) (gNm 5))
    (sIf (mB (mBin (gIn true) (mVar 5) (mVar 2)))
    (sSeq (sDrop (mBM "list" gAppend (mVar 2) (mCons (mVar 5) mNil)))
    (sSeq (sAsg (mBin gIx (mVar 5) (mC (.int 0))) (gNm 7))
    (sSeq (sFor (iAny (mSl false (mVar 5) (mPart (mC (.int 1))) mNoPart)) (gNm 8)
    (sAsg (mBin (gAdd false) (mBin (gAdd false) (mVar 7) (mBin gIx (mLst false (mCons (mC (.str "")) (mCons (mC (.str "-")) mNil))) (mCall (callB 2 m_law_pick) (mCons (mVar 0) (mCons (mC (.int 2)) mNil))))) (mVar 8)) (gNm 7)))
    (sDrop (mBM "list" gAppend (mVar 3) (mCons (mVar 7) mNil))))))
    sNext)))
    (sFrz 3 (sRet (mVar 3))))))
def m_law_exceptions : List D → Sto → MM D := mDef 9 2 b_law_exceptions
theorem ok_law_exceptions {f : Addr} {fd : FuncData} (F : Fun K "_law_exceptions" "_law_exceptions" s_law_exceptions f fd) (T : Tx P w K mg base cs) (C_law_pick : Cal P w K mg base 1 "_law_pick" ["feed", "many"] m_law_pick) :
    FnOk P w K mg base CX0 2 f fd ["feed", "most"] (spM K 2 m_law_exceptions) :=
  fn_m F sc_law_exceptions fun cdv A outer s H E E' hr =>
    (mss_cons (ms_set (i := 2) sc_law_exceptions.nd (me_lst true ma_nil))
    (mss_cons (ms_set (i := 3) sc_law_exceptions.nd (me_lst true ma_nil))
    (mss_cons (ms_for PassesOwn.never rfl (mi_range1 (ma_cons (me_cal C_law_pick callf_B (hr.mono (by decide)) (ma_cons (me_var 0) (ma_cons (me_var 1) ma_nil))) ma_nil) T.z_range) (mg_name (i := 4) sc_law_exceptions.nd)
    (mss_cons (ms_set (i := 5) sc_law_exceptions.nd (me_bm PySem.F.plainAttrs_str PySem.F.slot_str_join PySem.F.type_str_join mt_join rf_join me_str (ma_cons (me_lc (own := [("j", 6)]) (g := gName 6) (E' := E') false rfl sc_law_exceptions.nd (mi_range1 (ma_cons (me_add false me_int (me_cal C_law_pick callf_B (hr.mono (by decide)) (ma_cons (me_var 0) (ma_cons me_int ma_nil)))) ma_nil) T.z_range) (blkOk_by (own := [("j", 6)]) (N := ["feed", "most", "known", "rows", "k", "word", "j", "marked", "char"]) (sc := defScope s_law_exceptions) (by decide +kernel)) (fun _ _ _ _ _ => (pg_name (i := 6) sc_law_exceptions.nd rfl (Or.inl rfl))) (rgw_name 6) (fun _ _ _ _ _ => (me_ix me_str (me_cal C_law_pick callf_B (hr.mono (by decide)) (ma_cons (me_var 0) (ma_cons me_int ma_nil)))))) ma_nil)))
    (mss_one (ms_if (mt_cmp opr_notin (rf_in true) (me_var 5) (me_var 2) rfl)
    (mss_cons (ms_expr (me_append (me_var 2) (ma_cons (me_var 5) ma_nil)))
    (mss_cons (ms_set (i := 7) sc_law_exceptions.nd (me_ix (me_var 5) me_int))
    (mss_cons (ms_for PassesOwn.never rfl (mi_any (me_sl false (me_var 5) (mo_some me_int) mo_none)) (mg_name (i := 8) sc_law_exceptions.nd)
    (mss_one (ms_set (i := 7) sc_law_exceptions.nd (me_add false (me_add false (me_var 7) (me_ix (me_lst false (ma_cons me_str (ma_cons me_str ma_nil))) (me_cal C_law_pick callf_B (hr.mono (by decide)) (ma_cons (me_var 0) (ma_cons me_int ma_nil))))) (me_var 8)))))
    (mss_one (ms_expr (me_append (me_var 3) (ma_cons (me_var 7) ma_nil)))))))
    mss_nil))))
    (mss_frz 3 (mss_one (ms_ret (me_var 3)))))))
abbrev s_law_same : Stmt := top 21
theorem sc_law_same : FnScope ["actual", "due", "k"] ["actual", "due"] (defScope s_law_same) := ⟨rfl, rfl, rfl, by decide +kernel, rfl, by decide +kernel, by decide +kernel⟩
def b_law_same (self : List D → Sto → MM D) : FS :=
    (sSeq (sIf (mB (mBin gIsN (mVar 1) (mC .non)))
    (sRet (mBin gIsN (mVar 0) (mC .non)))
    sNext)
    (sSeq (sIf (mTru (mUn (gIsi "bool") (mVar 1)))
    (sRet (mAndV (mUn (gIsi "bool") (mVar 0)) (mBin gEq (mVar 0) (mVar 1))))
    sNext)
    (sSeq (sIf (mTru (mUn (gIsi "int") (mVar 1)))
    (sRet (mAndV (mUn (gIsi "int") (mVar 0)) (mAndV (mNotV (mUn (gIsi "bool") (mVar 0))) (mBin gEq (mVar 0) (mVar 1)))))
    sNext)
    (sSeq (sIf (mTru (mUn (gIsi "str") (mVar 1)))
    (sRet (mAndV (mUn (gIsi "str") (mVar 0)) (mBin gEq (mVar 0) (mVar 1))))
    sNext)
    (sSeq (sIf (mAnd (mTru (mUn (gIsi "list") (mVar 1))) (mNot (mTru (mUn (gIsi "list") (mVar 0)))))
    (sRet (mC (.bl false)))
    sNext)
    (sSeq (sIf (mAnd (mTru (mUn (gIsi "tuple") (mVar 1))) (mNot (mTru (mUn (gIsi "tuple") (mVar 0)))))
    (sRet (mC (.bl false)))
    sNext)
    (sSeq (sIf (mB (mBin gNe (mCB cLen (mCons (mVar 0) mNil)) (mCB cLen (mCons (mVar 1) mNil))))
    (sRet (mC (.bl false)))
    sNext)
    (sSeq (sFor (iR1 (mCons (mCB cLen (mCons (mVar 1) mNil)) mNil)) (gNm 2)
    (sIf (mNot (mTru (mCall (callB 2 self) (mCons (mBin gIx (mVar 0) (mVar 2)) (mCons (mBin gIx (mVar 1) (mVar 2)) mNil)))))
    (sRet (mC (.bl false)))
    sNext))
    (sRet (mC (.bl true)))))))))))
def m_law_same : Nat → List D → Sto → MM D
  | 0 => fun _ _ => none
  | n + 1 => mDef 3 2 (b_law_same (m_law_same n))
theorem st_law_same {f : Addr} {fd : FuncData} (F : Fun K "_law_same" "_law_same" s_law_same f fd) (T : Tx P w K mg base cs)  {lev n : Nat} (hlev : 0 ≤ lev) (C_self : Cal P w K mg base lev "_law_same" ["actual", "due"] (m_law_same n)) :
    FnOk P w K mg base CX0 (lev + 1) f fd ["actual", "due"] (spM K 2 (m_law_same (n + 1))) :=
  fn_m F sc_law_same fun cdv A outer s H E E' hr =>
    (mss_cons (ms_if (mt_cmp op_isN rf_isN (me_var 1) me_non (nomark _))
    (mss_one (ms_ret (me_cmp op_isN rf_isN (me_var 0) me_non (nomark _))))
    mss_nil)
    (mss_cons (ms_if (mt_truth (me_isi T.z_isinstance T.z_bool (me_var 1)))
    (mss_one (ms_ret (me_and (me_isi T.z_isinstance T.z_bool (me_var 0)) (me_one (me_cmp op_eq rf_eq (me_var 0) (me_var 1) (nomark _))))))
    mss_nil)
    (mss_cons (ms_if (mt_truth (me_isi T.z_isinstance T.z_int (me_var 1)))
    (mss_one (ms_ret (me_and (me_isi T.z_isinstance T.z_int (me_var 0)) (me_and (me_not (me_isi T.z_isinstance T.z_bool (me_var 0))) (me_one (me_cmp op_eq rf_eq (me_var 0) (me_var 1) (nomark _)))))))
    mss_nil)
    (mss_cons (ms_if (mt_truth (me_isi T.z_isinstance T.z_str (me_var 1)))
    (mss_one (ms_ret (me_and (me_isi T.z_isinstance T.z_str (me_var 0)) (me_one (me_cmp op_eq rf_eq (me_var 0) (me_var 1) (nomark _))))))
    mss_nil)
    (mss_cons (ms_if (MW.mt (mw_and (mt_truth (me_isi T.z_isinstance T.z_list (me_var 1))) (mw_and1 (mt_not (mt_truth (me_isi T.z_isinstance T.z_list (me_var 0)))))))
    (mss_one (ms_ret me_bl))
    mss_nil)
    (mss_cons (ms_if (MW.mt (mw_and (mt_truth (me_isi T.z_isinstance T.z_tuple (me_var 1))) (mw_and1 (mt_not (mt_truth (me_isi T.z_isinstance T.z_tuple (me_var 0)))))))
    (mss_one (ms_ret me_bl))
    mss_nil)
    (mss_cons (ms_if (mt_cmp op_ne rf_ne (me_callB call_len rf_len T.z_len (by decide +kernel) (ma_cons (me_var 0) ma_nil)) (me_callB call_len rf_len T.z_len (by decide +kernel) (ma_cons (me_var 1) ma_nil)) (nomark _))
    (mss_one (ms_ret me_bl))
    mss_nil)
    (mss_cons (ms_for PassesOwn.never rfl (mi_range1 (ma_cons (me_callB call_len rf_len T.z_len (by decide +kernel) (ma_cons (me_var 1) ma_nil)) ma_nil) T.z_range) (mg_name (i := 2) sc_law_same.nd)
    (mss_one (ms_if (mt_not (mt_truth (me_cal C_self callf_B (hr.mono (by omega)) (ma_cons (me_ix (me_var 0) (me_var 2)) (ma_cons (me_ix (me_var 1) (me_var 2)) ma_nil)))))
    (mss_one (ms_ret me_bl))
    mss_nil)))
    (mss_one (ms_ret me_bl))))))))))
theorem ok_law_same {f : Addr} {fd : FuncData} (F : Fun K "_law_same" "_law_same" s_law_same f fd) (T : Tx P w K mg base cs)  (hm : mg "_law_same" = some (.ref f)) (hk : PySem.W.keepIn K (.ref f) = true) (hb : Binds K fd ["actual", "due"] []) : ∀ n, Cal P w K mg base (0 + n) "_law_same" ["actual", "due"] (m_law_same n)
  | 0 => ⟨f, fd, fn_none, hm, hk, hb⟩
  | n + 1 => ⟨f, fd, st_law_same F T  (Nat.le_add_right _ _) (ok_law_same F T  hm hk hb n), hm, hk, hb⟩
abbrev s_law_word : Stmt := top 22
theorem sc_law_word : FnScope ["feed", "k"] ["feed"] (defScope s_law_word) := ⟨rfl, rfl, rfl, by decide +kernel, rfl, by decide +kernel, by decide +kernel⟩
def b_law_word : FS :=
    (sRet (mBM "str" gJoin (mC (.str "")) (mCons (mLc false (iR1 (mCons (mBin (gAdd false) (mC (.int 1)) (mCall (callB 2 m_law_pick) (mCons (mVar 0) (mCons (mC (.int 9)) mNil)))) mNil)) (gNm 1) tYesD (mBin gIx (mC (.str "abcABCab")) (mCall (callB 2 m_law_pick) (mCons (mVar 0) (mCons (mC (.int 8)) mNil)))) [1]) mNil)))
def m_law_word : List D → Sto → MM D := mDef 2 1 b_law_word
theorem ok_law_word {f : Addr} {fd : FuncData} (F : Fun K "_law_word" "_law_word" s_law_word f fd) (T : Tx P w K mg base cs) (C_law_pick : Cal P w K mg base 1 "_law_pick" ["feed", "many"] m_law_pick) :
    FnOk P w K mg base CX0 2 f fd ["feed"] (spM K 1 m_law_word) :=
  fn_m F sc_law_word fun cdv A outer s H E E' hr =>
    (mss_one (ms_ret (me_bm PySem.F.plainAttrs_str PySem.F.slot_str_join PySem.F.type_str_join mt_join rf_join me_str (ma_cons (me_lc (own := [("k", 1)]) (g := gName 1) (E' := E') false rfl sc_law_word.nd (mi_range1 (ma_cons (me_add false me_int (me_cal C_law_pick callf_B (hr.mono (by decide)) (ma_cons (me_var 0) (ma_cons me_int ma_nil)))) ma_nil) T.z_range) (blkOk_by (own := [("k", 1)]) (N := ["feed", "k"]) (sc := defScope s_law_word) (by decide +kernel)) (fun _ _ _ _ _ => (pg_name (i := 1) sc_law_word.nd rfl (Or.inl rfl))) (rgw_name 1) (fun _ _ _ _ _ => (me_ix me_str (me_cal C_law_pick callf_B (hr.mono (by decide)) (ma_cons (me_var 0) (ma_cons me_int ma_nil)))))) ma_nil))))
abbrev s_law : Stmt := top 23
theorem sc_law : FnScope ["script", "feed", "hyphens", "text", "due", "k", "j", "word", "place", "places", "at", "row", "parts", "size"] ["script"] (defScope s_law) := ⟨rfl, rfl, rfl, by decide +kernel, rfl, by decide +kernel, by decide +kernel⟩
def b_law (cs : Cs) : FS :=
    (sSeq (sAsg (mCall (callB 1 m_law_numbers) (mCons (mVar 0) mNil)) (gNm 1))
    (sSeq (sAsg (mTup (mCons (mC (.str "hyphens")) (mCons (mCall (callB 2 m_law_patterns) (mCons (mVar 1) (mCons (mC (.int 20)) mNil))) (mCons (mCall (callB 2 m_law_exceptions) (mCons (mVar 1) (mCons (mC (.int 8)) mNil))) (mCons (mBin (gAdd false) (mC (.int 1)) (mCall (callB 2 m_law_pick) (mCons (mVar 1) (mCons (mC (.int 3)) mNil)))) (mCons (mBin (gAdd false) (mC (.int 1)) (mCall (callB 2 m_law_pick) (mCons (mVar 1) (mCons (mC (.int 3)) mNil)))) mNil)))))) (gNm 2))
    (sSeq (sAsg (mC (.str "")) (gNm 3))
    (sSeq (sAsg (mLst false mNil) (gNm 4))
    (sSeq (sFor (iR1 (mCons (mCall (callB 2 m_law_pick) (mCons (mVar 1) (mCons (mC (.int 7)) mNil))) mNil)) (gNm 5)
    (sSeq (sFor (iR1 (mCons (mBin (gAdd false) (mCall (callB 2 m_law_pick) (mCons (mVar 1) (mCons (mC (.int 3)) mNil))) (mCB cInt (mCons (mBin gGt (mVar 5) (mC (.int 0))) mNil))) mNil)) (gNm 6)
    (sAsg (mBin (gAdd false) (mVar 3) (mBin gIx (mLst false (mCons (mC (.str "-")) (mCons (mC (.str " ")) (mCons (mC (.str ".")) (mCons (mC (.str "1")) (mCons (mC (.str "'")) (mCons (mC (.str "\n")) (mCons (mC (.str "_")) (mCons (mC (.str "~")) mNil))))))))) (mCall (callB 2 m_law_pick) (mCons (mVar 1) (mCons (mC (.int 8)) mNil))))) (gNm 3)))
    (sSeq (sAsg (mCall (callB 1 m_law_word) (mCons (mVar 1) mNil)) (gNm 7))
    (sSeq (sAsg (mBin (gAdd false) (mVar 4) (mLc false (iAny (mCall (callB 2 (m_points cs)) (mCons (mVar 2) (mCons (mBM0 "str" gLower (mVar 7)) mNil)))) (gNm 8) tYesD (mBin (gAdd false) (mCB cLen (mCons (mVar 3) mNil)) (mVar 8)) [8])) (gNm 4))
    (sAsg (mBin (gAdd false) (mVar 3) (mVar 7)) (gNm 3))))))
    (sSeq (sIf (mB (mBin gEq (mCall (callB 2 m_law_pick) (mCons (mVar 1) (mCons (mC (.int 2)) mNil))) (mC (.int 1))))
    (sAsg (mBin (gAdd false) (mVar 3) (mBin gIx (mLst false (mCons (mC (.str "!")) (mCons (mC (.str ".")) (mCons (mC (.str "--")) (mCons (mC (.str " ")) mNil))))) (mCall (callB 2 m_law_pick) (mCons (mVar 1) (mCons (mC (.int 4)) mNil))))) (gNm 3))
    sNext)
    (sSeq (sIf (mNot (mTru (mCall (callB 2 (m_law_same 4)) (mCons (mCall (callB 2 (m_points cs)) (mCons (mVar 2) (mCons (mVar 3) mNil))) (mCons (mVar 4) mNil)))))
    (sRet (mC (.bl false)))
    sNext)
    (sSeq (sAsg (mLc false (iR2 (mCons (mC (.int 1)) (mCons (mCB cLen (mCons (mVar 3) mNil)) mNil))) (gNm 10) (mB (mBin gEq (mCall (callB 2 m_law_pick) (mCons (mVar 1) (mCons (mC (.int 4)) mNil))) (mC (.int 1)))) (mVar 10) [10]) (gNm 9))
    (sSeq (sFor (iAny (mLst false (mCons (mVar 4) (mCons (mVar 9) mNil)))) (gNm 11)
    (sSeq (sAsg (mCall (callB 2 m_divided) (mCons (mVar 3) (mCons (mCB (cList false) (mCons (mVar 11) mNil)) mNil))) (gNm 12))
    (sSeq (sIf (mOr (mNot (mTru (mUn (gIsi "list") (mVar 12)))) (mOr (mB (mBin gNe (mCB cLen (mCons (mVar 12) mNil)) (mBin (gAdd false) (mCB cLen (mCons (mVar 11) mNil)) (mC (.int 1))))) (mB (mBin gNe (mBM "str" gJoin (mC (.str "")) (mCons (mVar 12) mNil)) (mVar 3)))))
    (sRet (mC (.bl false)))
    sNext)
    (sSeq (sAsg (mC (.int 0)) (gNm 13))
    (sFor (iR1 (mCons (mCB cLen (mCons (mVar 11) mNil)) mNil)) (gNm 5)
    (sSeq (sAsg (mBin (gAdd false) (mVar 13) (mCB cLen (mCons (mBin gIx (mVar 12) (mVar 5)) mNil))) (gNm 13))
    (sIf (mB (mBin gNe (mVar 13) (mBin gIx (mVar 11) (mVar 5))))
    (sRet (mC (.bl false)))
    sNext)))))))
    (sRet (mBin (gEqD false) (mCall (callB 2 (m_points cs)) (mCons (mVar 2) (mCons (mC (.str "")) mNil))) (mLst false mNil))))))))))))
def m_law (cs : Cs) : List D → Sto → MM D := mDef 14 1 (b_law cs)
theorem ok_law {f : Addr} {fd : FuncData} (F : Fun K "law" "law" s_law f fd) (T : Tx P w K mg base cs) (C_law_numbers : Cal P w K mg base 1 "_law_numbers" ["script"] m_law_numbers) (C_law_pick : Cal P w K mg base 1 "_law_pick" ["feed", "many"] m_law_pick) (C_law_exceptions : Cal P w K mg base 2 "_law_exceptions" ["feed", "most"] m_law_exceptions) (C_law_patterns : Cal P w K mg base 3 "_law_patterns" ["feed", "most"] m_law_patterns) (C_law_word : Cal P w K mg base 2 "_law_word" ["feed"] m_law_word) (C_points : Cal P w K mg base 6 "points" ["hyphens", "word"] (m_points cs)) (C_law_same : Cal P w K mg base 4 "_law_same" ["actual", "due"] (m_law_same 4)) (C_divided : Cal P w K mg base 1 "divided" ["word", "places"] m_divided) (hm : ∀ ns : List Int, ns.length ≤ 63 → ∃ st, (m_law cs) [.scr ns] [] = some (.ok (.bl true) st)) {s : Shared} {H : Hp} {a : Addr} {ns : List Int} (e0 : Env0 P w K mg base callerA [] s H) (hb : BindsTo s fd ⟨[.ref a], []⟩ [("script", .ref a)]) (sq : SqL K H a (ns.map V.int)) (hl : ns.length ≤ 63) :
    codeAny (model P w) callerA (.call (.ref f) ⟨[.ref a], []⟩) (CR CX0 [] P w H s (fun v _ => v = .bl true) (fun _ _ _ => False)) s :=
  fn_law (k := 6) F sc_law ⟨rfl, by decide, by decide⟩ e0 hb sq (hm ns hl) fun cdv hr hg =>
    (mss_cons (ms_set (i := 1) sc_law.nd (me_cal C_law_numbers callf_B (hr.mono (by decide)) (ma_cons (me_var 0) ma_nil)))
    (mss_cons (ms_set (i := 2) sc_law.nd (me_tup (ma_cons me_str (ma_cons (me_cal C_law_patterns callf_B (hr.mono (by decide)) (ma_cons (me_var 1) (ma_cons me_int ma_nil))) (ma_cons (me_cal C_law_exceptions callf_B (hr.mono (by decide)) (ma_cons (me_var 1) (ma_cons me_int ma_nil))) (ma_cons (me_add false me_int (me_cal C_law_pick callf_B (hr.mono (by decide)) (ma_cons (me_var 1) (ma_cons me_int ma_nil)))) (ma_cons (me_add false me_int (me_cal C_law_pick callf_B (hr.mono (by decide)) (ma_cons (me_var 1) (ma_cons me_int ma_nil)))) ma_nil)))))))
    (mss_cons (ms_set (i := 3) sc_law.nd me_str)
    (mss_cons (ms_set (i := 4) sc_law.nd (me_lst false ma_nil))
    (mss_cons (ms_for PassesOwn.never rfl (mi_range1 (ma_cons (me_cal C_law_pick callf_B (hr.mono (by decide)) (ma_cons (me_var 1) (ma_cons me_int ma_nil))) ma_nil) T.z_range) (mg_name (i := 5) sc_law.nd)
    (mss_cons (ms_for PassesOwn.never rfl (mi_range1 (ma_cons (me_add false (me_cal C_law_pick callf_B (hr.mono (by decide)) (ma_cons (me_var 1) (ma_cons me_int ma_nil))) (me_callTy call_int1 rf_int T.z_int (by decide +kernel) (ma_cons (me_cmp opr_gt rf_cmp (me_var 5) me_int (nomark _)) ma_nil))) ma_nil) T.z_range) (mg_name (i := 6) sc_law.nd)
    (mss_one (ms_set (i := 3) sc_law.nd (me_add false (me_var 3) (me_ix (me_lst false (ma_cons me_str (ma_cons me_str (ma_cons me_str (ma_cons me_str (ma_cons me_str (ma_cons me_str (ma_cons me_str (ma_cons me_str ma_nil))))))))) (me_cal C_law_pick callf_B (hr.mono (by decide)) (ma_cons (me_var 1) (ma_cons me_int ma_nil))))))))
    (mss_cons (ms_set (i := 7) sc_law.nd (me_cal C_law_word callf_B (hr.mono (by decide)) (ma_cons (me_var 1) ma_nil)))
    (mss_cons (ms_set (i := 4) sc_law.nd (me_add false (me_var 4) (me_lc (own := [("place", 8)]) (g := gName 8) (E' := fun _ _ _ => False) false rfl sc_law.nd (mi_any (me_cal C_points callf_B (hr.mono (by decide)) (ma_cons (me_var 2) (ma_cons (me_bm0 PySem.F.plainAttrs_str PySem.F.slot_str_lower PySem.F.type_str_lower mt_lower rf_lower (me_var 7)) ma_nil)))) (blkOk_by (own := [("place", 8)]) (N := ["script", "feed", "hyphens", "text", "due", "k", "j", "word", "place", "places", "at", "row", "parts", "size"]) (sc := defScope s_law) (by decide +kernel)) (fun _ _ _ _ _ => (pg_name (i := 8) sc_law.nd rfl (Or.inl rfl))) (rgw_name 8) (fun _ _ _ _ _ => (me_add false (me_callB call_len rf_len T.z_len (by decide +kernel) (ma_cons (me_var 3) ma_nil)) (me_var 8))))))
    (mss_one (ms_set (i := 3) sc_law.nd (me_add false (me_var 3) (me_var 7))))))))
    (mss_cons (ms_if (mt_cmp op_eq rf_eq (me_cal C_law_pick callf_B (hr.mono (by decide)) (ma_cons (me_var 1) (ma_cons me_int ma_nil))) me_int (nomark _))
    (mss_one (ms_set (i := 3) sc_law.nd (me_add false (me_var 3) (me_ix (me_lst false (ma_cons me_str (ma_cons me_str (ma_cons me_str (ma_cons me_str ma_nil))))) (me_cal C_law_pick callf_B (hr.mono (by decide)) (ma_cons (me_var 1) (ma_cons me_int ma_nil)))))))
    mss_nil)
    (mss_cons (ms_if (mt_not (mt_truth (me_cal C_law_same callf_B (hr.mono (by decide)) (ma_cons (me_cal C_points callf_B (hr.mono (by decide)) (ma_cons (me_var 2) (ma_cons (me_var 3) ma_nil))) (ma_cons (me_var 4) ma_nil)))))
    (mss_one (ms_ret me_bl))
    mss_nil)
    (mss_cons (ms_setLcIf (k := 9) (own := [("at", 10)]) (g := gName 10) (E' := fun _ _ _ => False) false rfl sc_law.nd (mi_range2 (ma_cons me_int (ma_cons (me_callB call_len rf_len T.z_len (by decide +kernel) (ma_cons (me_var 3) ma_nil)) ma_nil)) T.z_range) (blkOk_by (own := [("at", 10)]) (N := ["script", "feed", "hyphens", "text", "due", "k", "j", "word", "place", "places", "at", "row", "parts", "size"]) (sc := defScope s_law) (by decide +kernel)) (fun _ _ _ _ _ => (pg_name (i := 10) sc_law.nd rfl (Or.inl rfl))) (rgw_name 10) (fun _ _ _ _ _ => (mt_cmp op_eq rf_eq (me_cal C_law_pick callf_B (hr.mono (by decide)) (ma_cons (me_var 1) (ma_cons me_int ma_nil))) me_int (nomark _))) (fun _ _ _ _ _ => (me_var 10)))
    (mss_cons (ms_for PassesOwn.never rfl (mi_any (me_lst false (ma_cons (me_var 4) (ma_cons (me_var 9) ma_nil)))) (mg_name (i := 11) sc_law.nd)
    (mss_cons (ms_set (i := 12) sc_law.nd (me_cal C_divided callf_B (hr.mono (by decide)) (ma_cons (me_var 3) (ma_cons (me_callTy call_list_of (rf_list false) T.z_list (by decide +kernel) (ma_cons (me_var 11) ma_nil)) ma_nil))))
    (mss_cons (ms_if (MW.mt (mw_or (mt_not (mt_truth (me_isi T.z_isinstance T.z_list (me_var 12)))) (mw_or (mt_cmp op_ne rf_ne (me_callB call_len rf_len T.z_len (by decide +kernel) (ma_cons (me_var 12) ma_nil)) (me_add false (me_callB call_len rf_len T.z_len (by decide +kernel) (ma_cons (me_var 11) ma_nil)) me_int) (nomark _)) (mw_or1 (mt_cmp op_ne rf_ne (me_bm PySem.F.plainAttrs_str PySem.F.slot_str_join PySem.F.type_str_join mt_join rf_join me_str (ma_cons (me_var 12) ma_nil)) (me_var 3) (nomark _))))))
    (mss_one (ms_ret me_bl))
    mss_nil)
    (mss_cons (ms_set (i := 13) sc_law.nd me_int)
    (mss_one (ms_for PassesOwn.never rfl (mi_range1 (ma_cons (me_callB call_len rf_len T.z_len (by decide +kernel) (ma_cons (me_var 11) ma_nil)) ma_nil) T.z_range) (mg_name (i := 5) sc_law.nd)
    (mss_cons (ms_set (i := 13) sc_law.nd (me_add false (me_var 13) (me_callB call_len rf_len T.z_len (by decide +kernel) (ma_cons (me_ix (me_var 12) (me_var 5)) ma_nil))))
    (mss_one (ms_if (mt_cmp op_ne rf_ne (me_var 13) (me_ix (me_var 11) (me_var 5)) (nomark _))
    (mss_one (ms_ret me_bl))
    mss_nil)))))))))
    (mss_one (ms_ret (me_cmp (op_eqD hr.units) (rf_eqD) (me_cal C_points callf_B (hr.mono (by decide)) (ma_cons (me_var 2) (ma_cons me_str ma_nil))) (me_lst false ma_nil) (nomark _)))))))))))))
end
structure Kn (cs : Cs) : Prop where
local macro_rules | `(tactic| walk_at "es0") => `(tactic| first
  | with_reducible apply ens_seq
  | with_reducible apply ens_asg
  | with_reducible apply ens_retS
  | with_reducible apply ens_drop
  | with_reducible apply ens_ifS
  | with_reducible apply ens_next
  | ((with_reducible apply ens_var); exact rfl)
  | with_reducible apply ens_C
  | with_reducible apply ens_bin
  | with_reducible apply ens_un
  | with_reducible apply ens_CB
  | with_reducible apply ens_call
  | with_reducible apply ens_nil
  | with_reducible apply ens_cons
  | (with_reducible apply ens_tup)
  | (with_reducible apply ens_lst)
  | (with_reducible apply ens_lstC)
  | with_reducible apply ens_BM
  | with_reducible apply ens_BM0
  | with_reducible apply ens_NP
  | with_reducible apply ens_PA
  | with_reducible apply ens_SL
  | with_reducible apply ens_DG
  | with_reducible apply ens_DG2
  | with_reducible apply ens_DI
  | with_reducible apply ens_KE
  | with_reducible apply ens_MD
  | with_reducible apply ens_NK
  | with_reducible apply ens_NT
  | with_reducible apply ens_B
  | with_reducible apply ens_TR
  | with_reducible apply ens_AND
  | with_reducible apply ens_OR
  | with_reducible apply ens_NOT
  | with_reducible apply ens_ANDV
  | with_reducible apply ens_NOTV
  | with_reducible apply ens_LC
  | with_reducible apply ens_FOR
  | with_reducible apply ens_R1
  | with_reducible apply ens_IA
  | with_reducible apply ens_IE
  | ((with_reducible apply ens_AUG); exact rfl)
  | with_reducible apply ens_PAR
  | ((with_reducible apply ens_FRZ); exact rfl)
  | with_reducible apply ens_DP
  | with_reducible apply ens_CH
  | refine ⟨_, rfl, ?_⟩)
section
open PySem PySem.Spec L2 M

variable {st : Sto}
theorem s_pick {n : Int} (hn : 0 < n) (xs : List Int) : Ens (m_law_pick [.ptr 0, .int n] [some (.lst (iDs xs))]) fun d cs => ∃ v ys, d = .int v ∧ 0 ≤ v ∧ v < n ∧ cs = [some (.lst (iDs ys))] := by
  refine ens_def [some (.ptr 0), some (.int n)] rfl ?_
  unfold b_law_pick
  repeat walk_at "es0"
  refine ens_len (ds := iDs xs) rfl ?_
  rw [iDs_len]
  repeat walk_at "es0"
  refine ens_eqI ⟨_, rfl, fun _ => ?_, fun h => ?_⟩
  · repeat walk_at "es0"
    exact ⟨0, xs, rfl, Int.le_refl _, hn, rfl⟩
  · have h : xs ≠ [] := fun z => by subst z; simp at h
    obtain ⟨v, hv⟩ := iDs_last h
    repeat walk_at "es0"
    refine ⟨rfl, ens_red (x := .int v) (st := [some (.lst (iDs xs.dropLast))]) (by
      show (match (iDs xs)[(iDs xs).length - 1]? with
        | some y => putL 0 (iDs xs).dropLast y _
        | none => none) = _
      rw [hv]
      show some (R.ok (D.int v) [some (Cell.lst (iDs xs).dropLast)]) = _
      unfold iDs
      rw [← List.map_dropLast]; rfl) ?_⟩
    repeat walk_at "es0"
    refine ens_red rfl ?_
    repeat walk_at "es0"
    refine ens_I hn ?_
    exact ⟨_, _, rfl, Int.emod_nonneg _ (by omega), Int.emod_lt_of_pos _ hn, rfl⟩
theorem s_pickB {n : Int} (hn : 0 < n) (xs : List Int) {st : Sto} {Q : D → Sto → Prop} (h : ∀ v ys, 0 ≤ v → v < n → Q (.int v) (some (.lst (iDs ys)) :: st)) : Ens (callB 2 m_law_pick [.ptr 0, .int n] (some (.lst (iDs xs)) :: st)) Q :=
  ens_B1 rfl rfl (pfs_iDs xs) ((s_pick hn xs).imp fun d cs ⟨v, ys, e1, h0, h1, e2⟩ => ⟨.lst (iDs ys), [], e2, pfs_iDs ys, by rw [e1]; rfl, by rw [e1]; exact h v ys h0 h1⟩)
theorem s_numbers (ns : List Int) (hl : ns.length ≤ 63) : Ens (m_law_numbers [.scr ns] []) fun d cs => ∃ j xs, d = .ptr j ∧ cs[j]? = some (some (.lst (iDs xs))) := by
  refine ens_def [some (.scr ns), none, none, none, none] rfl ?_
  unfold b_law_numbers
  repeat walk_at "es0"
  refine ⟨by decide, ?_⟩
  repeat walk_at "es0"
  refine ens_gsl (ds := iDs ns) rfl ?_
  obtain ⟨ms, e, hm⟩ := cut_iDs ns none (some 63)
  rw [e]
  refine ens_red rfl ⟨_, .inl rfl, ?_⟩
  refine ens_for0 (fun j sl st => ∃ xs a b c, sl = [some (.scr ns), some (.ptr 0), a, b, c] ∧ st = [some (.lst (iDs xs))] ∧ xs.length ≤ 60 * j) ⟨[], none, none, none, rfl, rfl, Nat.le_refl _⟩ (fun j d sl st hd hI => ?_) (fun sl st hI => ?_)
  · obtain ⟨xs, a, b, c, rfl, rfl, hx⟩ := hI
    obtain ⟨cell, rfl, hj, _⟩ := iDs_mem hd
    refine ens_red rfl ?_
    repeat walk_at "es0"
    refine ens_I (by decide) ?_
    refine ens_red rfl ⟨_, rfl, fun _ => ?_, fun _ => ?_⟩
    · repeat walk_at "es0"
      refine ⟨by decide, ?_⟩
      refine ens_for0 (fun i sl st => ∃ xs cell b, sl = [some (.scr ns), some (.ptr 0), some (.int cell), b, c] ∧ st = [some (.lst (iDs xs))] ∧ xs.length ≤ 60 * j + i) ⟨xs, cell, b, rfl, rfl, hx⟩ (fun i d sl st hd hI => ?_) (fun sl st hI => ?_)
      · obtain ⟨xs, cell, b, rfl, rfl, hx⟩ := hI
        have hi : i < 60 := by
          by_cases z : i < 60
          · exact z
          · rw [List.getElem?_eq_none (by show (rngD 0 60).length ≤ i; exact Nat.le_trans (by decide : (rngD 0 60).length ≤ 60) (by omega))] at hd; cases hd
        refine ens_red rfl ?_
        repeat walk_at "es0"
        refine ens_red rfl ⟨_, rfl, fun _ => ?_, fun _ => ?_⟩
        · repeat walk_at "es0"
          refine ⟨rfl, ?_⟩
          repeat walk_at "es0"
          refine ens_red rfl ?_
          repeat walk_at "es0"
          refine ens_I (by decide) ?_
          repeat walk_at "es0"
          refine ens_app (ds := iDs xs) rfl (by rw [iDs_len]; unfold PySem.sizeLine; omega) ?_
          repeat walk_at "es0"
          refine ens_I (by unfold CDiv; decide) ?_
          exact ⟨xs ++ [cell % 1000], _, _, rfl, by rw [iDs_app]; rfl, by rw [List.length_append, List.length_singleton]; omega⟩
        · repeat walk_at "es0"
          exact ⟨xs, cell, _, rfl, rfl, by omega⟩
      · obtain ⟨xs, cell, b, rfl, rfl, hx⟩ := hI
        have e : (rngD 0 (60 : Int).toNat).length = 60 := by decide
        rw [e] at hx
        exact ⟨xs, _, _, _, rfl, rfl, by omega⟩
    · repeat walk_at "es0"
      refine ens_I (by unfold CMul; exact .inr (by decide)) ?_
      repeat walk_at "es0"
      refine ens_red rfl ?_
      repeat walk_at "es0"
      refine ens_red rfl ?_
      repeat walk_at "es0"
      refine ens_I (by decide) ?_
      repeat walk_at "es0"
      refine ⟨by decide, ?_⟩
      refine ens_for0 (fun i sl st => ∃ xs b s, sl = [some (.scr ns), some (.ptr 0), some (.int cell), b, some (.int s)] ∧ st = [some (.lst (iDs xs))] ∧ xs.length ≤ 60 * j + i) ⟨xs, b, _, rfl, rfl, hx⟩ (fun i d sl st hd hI => ?_) (fun sl st hI => ?_)
      · obtain ⟨xs, b, s, rfl, rfl, hx⟩ := hI
        have hi : i < 9 ∧ ∃ v : Int, d = .int v := by
          by_cases z : i < 9
          · refine ⟨z, ?_⟩
            unfold rngD at hd
            rw [List.getElem?_map, List.getElem?_range (by exact z)] at hd
            cases hd; exact ⟨_, rfl⟩
          · rw [List.getElem?_eq_none (by show (rngD 0 9).length ≤ i; exact Nat.le_trans (by decide : (rngD 0 9).length ≤ 9) (by omega))] at hd; cases hd
        obtain ⟨hi, v, rfl⟩ := hi
        refine ens_red rfl ?_
        repeat walk_at "es0"
        refine ens_I (by unfold CMul; exact .inr (by decide)) ?_
        repeat walk_at "es0"
        refine ens_I (by unfold CMul; exact .inl (by decide)) ?_
        refine ens_red rfl ?_
        repeat walk_at "es0"
        refine ens_red rfl ?_
        repeat walk_at "es0"
        refine ens_red rfl ?_
        repeat walk_at "es0"
        refine ens_I (by decide) ?_
        repeat walk_at "es0"
        refine ⟨rfl, ?_⟩
        repeat walk_at "es0"
        refine ens_red rfl ?_
        repeat walk_at "es0"
        refine ens_I (by decide) ?_
        repeat walk_at "es0"
        refine ens_I (by unfold CMul; exact .inr (by decide)) ?_
        repeat walk_at "es0"
        refine ens_I (by unfold CDiv; decide) ?_
        refine ens_red rfl ?_
        repeat walk_at "es0"
        refine ens_red rfl ?_
        repeat walk_at "es0"
        refine ens_I (by decide) ?_
        repeat walk_at "es0"
        refine ens_app (ds := iDs xs) rfl (by rw [iDs_len]; unfold PySem.sizeLine; omega) ?_
        exact ⟨xs ++ [_], _, _, rfl, by rw [iDs_app]; rfl, by rw [List.length_append, List.length_singleton]; omega⟩
      · obtain ⟨xs, b, s, rfl, rfl, hx⟩ := hI
        have e : (rngD 0 (9 : Int).toNat).length = 9 := by decide
        rw [e] at hx
        exact ⟨xs, _, _, _, rfl, rfl, by omega⟩
  · obtain ⟨xs, a, b, c, rfl, rfl, hx⟩ := hI
    repeat walk_at "es0"
    refine ens_gsl (ds := iDs xs) rfl ?_
    obtain ⟨ys, e, _⟩ := cut_iDs xs none (some 300)
    rw [e]
    refine ens_red rfl ?_
    repeat walk_at "es0"
    refine ⟨rfl, ?_⟩
    refine ens_red rfl ?_
    repeat walk_at "es0"
    exact ⟨1, ys.reverse, rfl, by show some (some (Cell.lst (iDs ys).reverse)) = _; unfold iDs; rw [← List.map_reverse]⟩
theorem s_numbersB (ns : List Int) (hl : ns.length ≤ 63) {Q : D → Sto → Prop} (h : ∀ xs, Q (.ptr st.length) (st ++ [some (.lst (iDs xs))])) : Ens (callB 1 m_law_numbers [.scr ns] st) Q :=
  ens_B0c rfl rfl rfl ((s_numbers ns hl).imp fun d c ⟨j, xs, e1, e2⟩ => ⟨j, _, e1, e2, pfs_iDs xs, h xs⟩)
/-! the same data -/
def sOk : Nat → D → Bool
  | 0, d => match d with
    | .non => true
    | .bl _ => true
    | .int _ => true
    | .str _ => true
    | _ => false
  | n + 1, d => match d with
    | .non => true
    | .bl _ => true
    | .int _ => true
    | .str _ => true
    | .lst ds => decide (ds.length ≤ 1000000) && ds.all (sOk n)
    | .tup ds => decide (ds.length ≤ 1000000) && ds.all (sOk n)
    | _ => false
theorem pfs_all {ds : List D} (h : ∀ d ∈ ds, pf d = true) : pfs ds = true := by
  induction ds with
  | nil => rfl
  | cons d r ih => rw [pfs, h d List.mem_cons_self, ih fun x m => h x (List.mem_cons_of_mem _ m)]; rfl
theorem sOk_pf : ∀ (n : Nat) (d : D), sOk n d = true → pf d = true
  | 0, d, h => by cases d <;> first | rfl | cases h
  | n + 1, d, h => by
    cases d with
    | lst ds =>
      rw [sOk, Bool.and_eq_true, List.all_eq_true] at h
      rw [pf]; exact pfs_all fun x m => sOk_pf n x (h.2 x m)
    | tup ds =>
      rw [sOk, Bool.and_eq_true, List.all_eq_true] at h
      rw [pf]; exact pfs_all fun x m => sOk_pf n x (h.2 x m)
    | _ => first | rfl | cases h
theorem same_walk {d : D} {ds : List D} {m : List D → Sto → MM D} {a : Option D} {N : Sl → Sto → Prop} {R : D → Sto → Prop} (hd : d = .lst ds ∨ d = .tup ds) (hi : ∀ x ∈ ds, ∀ {Q : D → Sto → Prop}, Q (.bl true) st → Ens (callB 2 m [x, x] st) Q) (q : ∀ a, N [some d, some d, a] st) :
    EnsS (forL (gNm 2) (sIf (mNot (mTru (mCall (callB 2 m) (mCons (mBin gIx (mVar 0) (mVar 2)) (mCons (mBin gIx (mVar 1) (mVar 2)) mNil))))) (sRet (mC (.bl false))) sNext) (rngD 0 ds.length) [some d, some d, a] st) N R := by
  refine ens_for0 (fun j sl s => s = st ∧ ∃ a, sl = [some d, some d, a]) ⟨rfl, a, rfl⟩ (fun j x sl s hx hI => ?_) (fun sl s hI => ?_)
  · obtain ⟨rfl, a, rfl⟩ := hI
    obtain ⟨hj, rfl⟩ := rng_lt hx
    have e0 : (0 : Int) + (j : Int) = (j : Int) := by omega
    rw [e0]
    have e1 : atI ds (j : Int) = some ds[j] := at_nat (List.getElem?_eq_getElem hj)
    have ix : ∀ {Q : D → Sto → Prop}, Q ds[j] s → Ens (gIx s d (.int (j : Int))) Q := fun qq => by
      rcases hd with rfl | rfl
      · exact ens_ix rfl e1 qq
      · exact ens_ixT e1 qq
    repeat walk_at "es"
    refine ix ?_
    repeat walk_at "es"
    refine ix ?_
    repeat walk_at "es"
    refine hi _ (List.getElem_mem hj) ?_
    repeat walk_at "es"
    exact ⟨rfl, _, rfl⟩
  · obtain ⟨rfl, a, rfl⟩ := hI
    exact q a
theorem r_same : ∀ (n : Nat) (d : D), sOk n d = true → ∀ {st : Sto} {Q : D → Sto → Prop}, Q (.bl true) st → Ens (callB 2 (m_law_same (n + 1)) [d, d] st) Q := by
  intro n
  induction n with
  | zero =>
    intro d h st Q q
    refine ens_B0 rfl (by cases d <;> first | rfl | cases h) (by have := sOk_pf _ _ h; simp [pfs, this]) ?_
    show Ens (mDef 3 2 (b_law_same (m_law_same 0)) [d, d] []) _
    refine ens_def [some d, some d, none] rfl ?_
    unfold b_law_same
    cases d with
    | non => repeat walk_at "es"
             exact ⟨rfl, q⟩
    | bl b =>
      repeat walk_at "es"
      exact ens_red (x := .bl true) (st := []) (by unfold gEq; simp [scD, scal]) ⟨rfl, q⟩
    | int i =>
      repeat walk_at "es"
      rw [decide_eq_true rfl]; exact ⟨rfl, q⟩
    | str x =>
      repeat walk_at "es"
      rw [decide_eq_true rfl]; exact ⟨rfl, q⟩
    | _ => cases h
  | succ n ih =>
    intro d h st Q q
    refine ens_B0 rfl (by cases d <;> first | rfl | cases h) (by have := sOk_pf _ _ h; simp [pfs, this]) ?_
    show Ens (mDef 3 2 (b_law_same (m_law_same (n + 1))) [d, d] []) _
    refine ens_def [some d, some d, none] rfl ?_
    unfold b_law_same
    cases d with
    | non => repeat walk_at "es"
             exact ⟨rfl, q⟩
    | bl b =>
      repeat walk_at "es"
      exact ens_red (x := .bl true) (st := []) (by unfold gEq; simp [scD, scal]) ⟨rfl, q⟩
    | int i =>
      repeat walk_at "es"
      rw [decide_eq_true rfl]; exact ⟨rfl, q⟩
    | str x =>
      repeat walk_at "es"
      rw [decide_eq_true rfl]; exact ⟨rfl, q⟩
    | lst ds =>
      rw [sOk, Bool.and_eq_true, List.all_eq_true, decide_eq_true_eq] at h
      repeat walk_at "es"
      refine ⟨by omega, ?_⟩
      refine same_walk (.inl rfl) (fun x m => ih x (h.2 x m)) fun a => ?_
      repeat walk_at "es"
      exact ⟨rfl, q⟩
    | tup ds =>
      rw [sOk, Bool.and_eq_true, List.all_eq_true, decide_eq_true_eq] at h
      repeat walk_at "es"
      refine ⟨by omega, ?_⟩
      refine same_walk (.inr rfl) (fun x m => ih x (h.2 x m)) fun a => ?_
      repeat walk_at "es"
      exact ⟨rfl, q⟩
    | _ => cases h
end
local macro_rules | `(tactic| walk_at "es1") => `(tactic| first
  | with_reducible apply ens_seq
  | with_reducible apply ens_asg
  | with_reducible apply ens_retS
  | with_reducible apply ens_drop
  | with_reducible apply ens_ifS
  | with_reducible apply ens_next
  | ((with_reducible apply ens_var); exact rfl)
  | with_reducible apply ens_C
  | with_reducible apply ens_bin
  | with_reducible apply ens_un
  | with_reducible apply ens_CB
  | with_reducible apply ens_call
  | with_reducible apply ens_nil
  | with_reducible apply ens_cons
  | (with_reducible apply ens_tup)
  | (with_reducible apply ens_lst)
  | (with_reducible apply ens_lstC)
  | with_reducible apply ens_BM
  | with_reducible apply ens_BM0
  | with_reducible apply ens_NP
  | with_reducible apply ens_PA
  | with_reducible apply ens_SL
  | with_reducible apply ens_DG
  | with_reducible apply ens_DG2
  | with_reducible apply ens_DI
  | with_reducible apply ens_KE
  | with_reducible apply ens_MD
  | with_reducible apply ens_NK
  | with_reducible apply ens_NT
  | with_reducible apply ens_B
  | with_reducible apply ens_TR
  | with_reducible apply ens_AND
  | with_reducible apply ens_OR
  | with_reducible apply ens_NOT
  | with_reducible apply ens_ANDV
  | with_reducible apply ens_NOTV
  | with_reducible apply ens_LC
  | with_reducible apply ens_FOR
  | with_reducible apply ens_R1
  | with_reducible apply ens_IA
  | with_reducible apply ens_IE
  | ((with_reducible apply ens_AUG); exact rfl)
  | with_reducible apply ens_PAR
  | ((with_reducible apply ens_FRZ); exact rfl)
  | with_reducible apply ens_DP
  | with_reducible apply ens_CH
  | refine ⟨_, rfl, ?_⟩)
section
open PySem PySem.Spec L2 M

variable {st : Sto}
def dgt (c : Nat) : Bool := decide (48 ≤ c) && decide (c ≤ 57)
def sml (c : Nat) : Bool := decide (97 ≤ c) && decide (c ≤ 122)
theorem le_one (a b : Nat) : (!decide ((U [a]).cps.toList < (U [b]).cps.toList)) = decide (b ≤ a) := by
  have := one_lt a b
  unfold T at this
  rw [this]
  by_cases h : a < b
  · rw [decide_eq_true h, decide_eq_false (by omega)]; rfl
  · rw [decide_eq_false h, decide_eq_true (by omega)]; rfl
theorem r_is_digit (c : Nat) {Q : D → Sto → Prop} (q : Q (.bl (dgt c)) st) : Ens (callB 1 m_is_digit [.str (U [c])] st) Q := by
  refine ens_B0 rfl rfl rfl ?_
  refine ens_def [some (.str (U [c]))] rfl ?_
  unfold b_is_digit
  repeat walk_at "es1"
  refine ens_red (x := .bl (decide (48 ≤ c))) (by
    show M.ret (D.bl (!decide ((U [c]).cps.toList < (U [48]).cps.toList))) _ = _
    rw [le_one]) ⟨_, rfl, fun h => ?_, fun h => ?_⟩
  · repeat walk_at "es1"
    refine ens_red (x := .bl (decide (c ≤ 57))) (by
      show M.ret (D.bl (!decide ((U [57]).cps.toList < (U [c]).cps.toList))) _ = _
      rw [le_one]) ⟨rfl, ?_⟩
    have e : dgt c = decide (c ≤ 57) := by unfold dgt; rw [h]; rfl
    rw [← e]; exact q
  · have e : dgt c = false := by unfold dgt; rw [h]; rfl
    rw [e] at q
    exact ⟨rfl, q⟩
theorem r_is_small (c : Nat) {Q : D → Sto → Prop} (q : Q (.bl (sml c)) st) : Ens (callB 1 m_is_small [.str (U [c])] st) Q := by
  refine ens_B0 rfl rfl rfl ?_
  refine ens_def [some (.str (U [c]))] rfl ?_
  unfold b_is_small
  repeat walk_at "es1"
  refine ens_red (x := .bl (decide (97 ≤ c))) (by
    show M.ret (D.bl (!decide ((U [c]).cps.toList < (U [97]).cps.toList))) _ = _
    rw [le_one]) ⟨_, rfl, fun h => ?_, fun h => ?_⟩
  · repeat walk_at "es1"
    refine ens_red (x := .bl (decide (c ≤ 122))) (by
      show M.ret (D.bl (!decide ((U [122]).cps.toList < (U [c]).cps.toList))) _ = _
      rw [le_one]) ⟨rfl, ?_⟩
    have e : sml c = decide (c ≤ 122) := by unfold sml; rw [h]; rfl
    rw [← e]; exact q
  · have e : sml c = false := by unfold sml; rw [h]; rfl
    rw [e] at q
    exact ⟨rfl, q⟩
def smA (l : List Nat) : Bool := l.all sml && !l.isEmpty
theorem chr_get {x : Str} {j : Nat} {d : D} (h : (chrD x)[j]? = some d) : ∃ c, (T x)[j]? = some c ∧ d = .str (U [c]) := by
  rw [chrD_T, List.getElem?_map] at h
  cases e : (T x)[j]? with
  | none => rw [e] at h; cases h
  | some c => rw [e] at h; cases h; exact ⟨c, rfl, rfl⟩
theorem chr_len (x : Str) : (chrD x).length = (T x).length := by rw [chrD_T, List.length_map]
theorem ens_neS {x y : Str} {Q : D → Sto → Prop} (q : Q (.bl (!decide (x = y))) st) : Ens (gNe st (.str x) (.str y)) Q := by
  have e : decide (V.str x = V.str y) = decide (x = y) := by by_cases z : x = y <;> simp [z]
  rw [← e] at q
  exact ens_ret q
theorem ens_eqS {x y : Str} {Q : D → Sto → Prop} (q : Q (.bl (decide (x = y))) st) : Ens (gEq st (.str x) (.str y)) Q := by
  have e : decide (V.str x = V.str y) = decide (x = y) := by by_cases z : x = y <;> simp [z]
  rw [← e] at q
  exact ens_ret q
theorem T_nil {x : Str} : x = "" ↔ T x = [] := ⟨fun h => by rw [h]; rfl, fun h => T_inj (by rw [h]; rfl)⟩
theorem all_take_succ {f : Nat → Bool} {l : List Nat} {j : Nat} {c : Nat} (h : l[j]? = some c) : (l.take (j + 1)).all f = ((l.take j).all f && f c) := by
  rw [List.take_succ, h]
  simp
theorem r_are_small (x : Str) {Q : D → Sto → Prop} (q : Q (.bl (smA (T x))) st) : Ens (callB 1 m_are_small [.str x] st) Q := by
  refine ens_B0 rfl rfl rfl ?_
  refine ens_def [some (.str x), none] rfl ?_
  unfold b_are_small
  repeat walk_at "es1"
  refine ⟨_, .inr (.inr (.inl ⟨_, rfl, rfl⟩)), ?_⟩
  refine ens_for0 (fun j sl s => s = [] ∧ (∃ a, sl = [some (.str x), a]) ∧ ((T x).take j).all sml = true) ⟨rfl, ⟨_, rfl⟩, rfl⟩ (fun j d sl s hd hI => ?_) (fun sl s hI => ?_)
  · obtain ⟨rfl, ⟨a, rfl⟩, hall⟩ := hI
    obtain ⟨c, hc, rfl⟩ := chr_get hd
    refine ens_red rfl ?_
    repeat walk_at "es1"
    refine r_is_small c ?_
    repeat walk_at "es1"
    refine ⟨fun h => ?_, fun h => ?_⟩
    · repeat walk_at "es1"
      have h : sml c = false := by simpa using h
      have e : smA (T x) = false := by
        unfold smA
        have : (T x).all sml = false := by
          cases z : (T x).all sml with
          | false => rfl
          | true => rw [List.all_eq_true.mp z c (List.mem_of_getElem? hc)] at h; cases h
        rw [this]; rfl
      rw [e] at q
      exact ⟨rfl, q⟩
    · have h : sml c = true := by simpa using h
      repeat walk_at "es1"
      exact ⟨rfl, ⟨_, rfl⟩, by rw [all_take_succ hc, hall, h]; rfl⟩
  · obtain ⟨rfl, ⟨a, rfl⟩, hall⟩ := hI
    rw [chr_len, List.take_length] at hall
    repeat walk_at "es1"
    refine ens_neS ⟨rfl, ?_⟩
    have e : smA (T x) = !decide (x = "") := by
      unfold smA
      rw [hall]
      by_cases z : x = ""
      · rw [decide_eq_true z, T_nil.mp z]; rfl
      · rw [decide_eq_false z]
        cases h : T x with
        | nil => exact absurd (T_nil.mpr h) z
        | cons _ _ => rfl
    rw [← e]; exact q
theorem ens_fcons {tg : FG} {body : FS} {d : D} {ds : List D} {sl : Sl} {st : Sto} {N : Sl → Sto → Prop} {R : D → Sto → Prop} (h : Ens (tg d sl st) fun sl st => EnsS (body sl st) (fun sl st => EnsS (forL tg body ds sl st) N R) R) : EnsS (forL tg body (d :: ds) sl st) N R := by
  refine ens_bnd (h.imp fun sl1 st1 h1 => ens_bnd (h1.imp fun f st2 h2 => ?_))
  cases f with
  | nx sl2 => exact h2
  | ct sl2 => exact h2.elim
  | bk sl2 => exact h2.elim
  | rt d2 => exact ens_ret h2
theorem ens_fnil {tg : FG} {body : FS} {sl : Sl} {st : Sto} {N : Sl → Sto → Prop} {R : D → Sto → Prop} (h : N sl st) : EnsS (forL tg body [] sl st) N R := ens_ret h
theorem ens_asgG {f : FE} {g : FG} {sl : Sl} {st : Sto} {N : Sl → Sto → Prop} {R : D → Sto → Prop} (h : Ens (f sl st) fun d st => Ens (g d sl st) N) : EnsS (sAsg f g sl st) N R := ens_bnd (h.imp fun _ _ q => ens_bnd (q.imp fun _ _ q => ens_ret q))
theorem ens_set {fo fi : FE} {g : Sto → D → D → D → MM Unit} {d : D} {sl : Sl} {st : Sto} {N : Sl → Sto → Prop} (h : Ens (fo sl st) fun x st => Ens (fi sl st) fun y st => Ens (g st x y d) fun _ st => N sl st) : Ens (gSet fo fi g d sl st) N := ens_bnd (h.imp fun _ _ q => ens_bnd (q.imp fun _ _ q => ens_bnd (q.imp fun _ _ q => ens_ret q)))
def dd : Bool → List Nat → Bool
  | _, [] => false
  | p, c :: r => (p && dgt c) || dd (dgt c) r
def nd (l : List Nat) : List Nat := l.filter fun c => !dgt c
def patK (l : List Nat) : List Nat := if dd false l = true then [] else if (smA (offR 46 (offL 46 (nd l))) && decide ((offR 46 (offL 46 (nd l))).length ≤ 12)) = true then nd l else []
theorem ix_last {n : Nat} (h : 0 < n) : ixN n (-1) = some (n - 1) := by
  unfold ixN
  rw [if_neg (by decide), if_pos (by omega)]
  congr 1
  omega
theorem set_last {ds : List D} {d : D} (h : ds ≠ []) : gSetL [some (.lst ds)] (.ptr 0) (.int (-1)) d = M.ret () [some (.lst (ds.set (ds.length - 1) d))] := by
  show (match ixN ds.length (-1) with
    | some j => M.ret () (List.set [some (Cell.lst ds)] 0 (some (.lst (ds.set j d))))
    | none => none) = _
  rw [ix_last (List.length_pos_iff.mpr h)]; rfl
theorem set_iDs (xs : List Int) (j : Nat) (n : Int) : (iDs xs).set j (.int n) = iDs (xs.set j n) := by
  unfold iDs
  rw [List.map_set]
theorem nd_cons (c : Nat) (r : List Nat) : nd (c :: r) = if dgt c = true then nd r else c :: nd r := by
  unfold nd
  rw [List.filter_cons]
  cases h : dgt c <;> simp
theorem offL_len (c : Nat) (l : List Nat) : (offL c l).length ≤ l.length := by
  cases l with
  | nil => exact Nat.le_refl _
  | cons y r =>
    show (if y = c then r else y :: r).length ≤ _
    by_cases h : y = c
    · rw [if_pos h, List.length_cons]; omega
    · rw [if_neg h]; exact Nat.le_refl _
def wordK (l : List Nat) : List Nat := if (spl 45 l).all smA = true then (spl 45 l).flatten else []
theorem spl_flat (c : Nat) : ∀ l : List Nat, (spl c l).flatten = l.filter (fun x => !decide (x = c))
  | [] => rfl
  | x :: r => by
    have ih := spl_flat c r
    unfold spl
    by_cases h : x = c
    · rw [if_pos h, List.filter_cons_of_neg (by simp [h])]
      exact ih
    · rw [if_neg h, List.filter_cons_of_pos (by simp [h]), ← ih]
      cases spl c r with
      | nil => rfl
      | cons p ps => rfl
theorem split_size (x : Str) (c : Nat) : ((Txt.split x (U [c])).map (·.length)).sum ≤ x.length := by
  rw [sum_len, T_split, spl_flat, ← T_len]
  exact List.length_filter_le _ _
theorem spl_count (c : Nat) : ∀ l : List Nat, (spl c l).length ≤ l.length + 1
  | [] => Nat.le_refl _
  | x :: r => by
    have ih := spl_count c r
    unfold spl
    by_cases h : x = c
    · rw [if_pos h, List.length_cons, List.length_cons]; omega
    · rw [if_neg h]
      cases e : spl c r with
      | nil => simp
      | cons p ps =>
        rw [e] at ih
        rw [List.length_cons] at ih
        rw [List.length_cons, List.length_cons]; omega
theorem in_dig (c : Nat) : decide (c ∈ (Str.ofString "0123456789").cps.toList) = dgt c := by
  have e : (Str.ofString "0123456789").cps.toList = [48, 49, 50, 51, 52, 53, 54, 55, 56, 57] := by decide +kernel
  rw [e]
  unfold dgt
  by_cases h : 48 ≤ c ∧ c ≤ 57
  · rw [decide_eq_true h.1, decide_eq_true h.2, decide_eq_true]
    · rfl
    · simp only [List.mem_cons, List.not_mem_nil, or_false]; omega
  · have : ¬ c ∈ [48, 49, 50, 51, 52, 53, 54, 55, 56, 57] := by simp only [List.mem_cons, List.not_mem_nil, or_false]; omega
    rw [decide_eq_false this]
    by_cases h1 : 48 ≤ c
    · rw [decide_eq_true h1, decide_eq_false fun z => h ⟨h1, z⟩]; rfl
    · rw [decide_eq_false h1]; rfl
theorem in_abc (c : Nat) : decide (c ∈ (Str.ofString "abcdefghijklmnopqrstuvwxyz").cps.toList) = sml c := by
  have e : (Str.ofString "abcdefghijklmnopqrstuvwxyz").cps.toList = [97, 98, 99, 100, 101, 102, 103, 104, 105, 106, 107, 108, 109, 110, 111, 112, 113, 114, 115, 116, 117, 118, 119, 120, 121, 122] := by decide +kernel
  rw [e]
  unfold sml
  by_cases h : 97 ≤ c ∧ c ≤ 122
  · rw [decide_eq_true h.1, decide_eq_true h.2, decide_eq_true]
    · rfl
    · simp only [List.mem_cons, List.not_mem_nil, or_false]; omega
  · have : ¬ c ∈ [97, 98, 99, 100, 101, 102, 103, 104, 105, 106, 107, 108, 109, 110, 111, 112, 113, 114, 115, 116, 117, 118, 119, 120, 121, 122] := by simp only [List.mem_cons, List.not_mem_nil, or_false]; omega
    rw [decide_eq_false this]
    by_cases h1 : 97 ≤ c
    · rw [decide_eq_true h1, decide_eq_false fun z => h ⟨h1, z⟩]; rfl
    · rw [decide_eq_false h1]; rfl
theorem dd_iff : ∀ (l : List Nat) (p : Bool), dd p l = true ↔ (p = true ∧ ∃ c, l[0]? = some c ∧ dgt c = true) ∨ ∃ i a b, l[i]? = some a ∧ l[i + 1]? = some b ∧ dgt a = true ∧ dgt b = true
  | [], p => by simp [dd]
  | c :: r, p => by
    rw [dd, Bool.or_eq_true, Bool.and_eq_true, dd_iff r (dgt c)]
    constructor
    · rintro (⟨h1, h2⟩ | ⟨h1, b, h2, h3⟩ | ⟨i, a, b, h⟩)
      · exact .inl ⟨h1, c, rfl, h2⟩
      · exact .inr ⟨0, c, b, rfl, h2, h1, h3⟩
      · exact .inr ⟨i + 1, a, b, h⟩
    · rintro (⟨h1, c', h2, h3⟩ | ⟨i, a, b, h1, h2, h3, h4⟩)
      · cases h2; exact .inl ⟨h1, h3⟩
      · cases i with
        | zero => cases h1; exact .inr (.inl ⟨h3, b, h2, h4⟩)
        | succ i => exact .inr (.inr ⟨i, a, b, h1, h2, h3, h4⟩)
theorem offL_eq (c : Nat) (l : List Nat) : offL c l = if l.take 1 = [c] then l.drop 1 else l := by
  cases l with
  | nil => rfl
  | cons a r =>
    show (if a = c then r else a :: r) = _
    by_cases h : a = c
    · rw [if_pos h, if_pos (by simp [h])]; rfl
    · rw [if_neg h, if_neg (by simp [h])]
theorem offR_eq (c : Nat) (l : List Nat) : offR c l = if l.drop (l.length - 1) = [c] then l.take (l.length - 1) else l := by
  unfold offR
  rcases List.eq_nil_or_concat l with h | ⟨k, a, h⟩
  · subst h; rfl
  · subst h
    have e : (k.concat a).reverse = a :: k.reverse := by simp
    rw [e]
    show (if a = c then k.reverse else a :: k.reverse).reverse = _
    have e2 : (k.concat a).length - 1 = k.length := by simp
    rw [e2]
    by_cases h : a = c
    · rw [if_pos h, if_pos (by simp [h])]; simp
    · rw [if_neg h, if_neg (by simp [h])]; simp
def gE (l : List Nat) : Bool := !l.isEmpty && !decide (l.head? = some 45) && !decide (l.getLast? = some 45) && !adj 45 l
def gT (l : List Nat) : Bool := l.isEmpty || (!decide (l.getLast? = some 45) && !adj 45 l)
theorem ends : ∀ l : List Nat, (spl 45 l).all (fun p => !p.isEmpty) = gE l ∧ (spl 45 l).tail.all (fun p => !p.isEmpty) = gT l
  | [] => ⟨rfl, rfl⟩
  | x :: r => by
    obtain ⟨h1, h2⟩ := ends r
    by_cases hx : x = 45
    · subst hx
      have e : spl 45 (45 :: r) = [] :: spl 45 r := by
        show (if 45 = 45 then _ else _) = _
        rw [if_pos rfl]
      rw [e]
      refine ⟨?_, ?_⟩
      · show false = _
        unfold gE
        simp
      · show (spl 45 r).all _ = _
        rw [h1]
        unfold gE gT
        cases r with
        | nil => rfl
        | cons y r =>
          have hb : (y == 45) = decide (y = 45) := by by_cases z : y = 45 <;> simp [z]
          simp [adj, List.getLast?_cons_cons, Bool.and_assoc, Bool.and_comm, Bool.and_left_comm, hb]
    · have e : ∃ p ps, spl 45 r = p :: ps ∧ spl 45 (x :: r) = (x :: p) :: ps := by
        cases q : spl 45 r with
        | nil => exact absurd q (spl_ne 45 r)
        | cons p ps =>
          refine ⟨p, ps, rfl, ?_⟩
          show (if x = 45 then _ else _) = _
          rw [if_neg hx, q]
      obtain ⟨p, ps, e1, e2⟩ := e
      rw [e1] at h2
      have h2 : ps.all (fun p => !p.isEmpty) = gT r := h2
      rw [e2]
      have key : gT r = (!decide ((x :: r).getLast? = some 45) && !adj 45 (x :: r)) := by
        unfold gT
        cases r with
        | nil => simp [adj, hx]
        | cons y r =>
          have hb : (x == 45) = false := by simpa using hx
          simp [adj, List.getLast?_cons_cons, hx, hb]
      refine ⟨?_, ?_⟩
      · show (true && ps.all _) = _
        rw [h2, key]
        unfold gE
        simp [hx]
      · show ps.all _ = _
        rw [h2, key]
        unfold gT
        simp
theorem all_flat (f : Nat → Bool) : ∀ ps : List (List Nat), ps.flatten.all f = ps.all fun p => p.all f
  | [] => rfl
  | p :: r => by rw [List.flatten_cons, List.all_append, all_flat f r]; rfl
def lts (l : List Nat) : List Nat := l.filter fun x => !decide (x = 45)
theorem wordK_eq (l : List Nat) : wordK l = if ((lts l).all sml && gE l) = true then lts l else [] := by
  unfold wordK
  have e : (spl 45 l).all smA = ((lts l).all sml && gE l) := by
    rw [← (ends l).1]
    unfold lts
    rw [← spl_flat, all_flat]
    induction spl 45 l with
    | nil => rfl
    | cons p ps ih =>
      rw [List.all_cons, List.all_cons, List.all_cons, ih]
      unfold smA
      cases p.all sml <;> cases p.isEmpty <;> cases (ps.all fun p => p.all sml) <;> simp
  rw [e, spl_flat]
  rfl
def abc (c : Nat) : Prop := c = 97 ∨ c = 98 ∨ c = 99
theorem ens_abc {v : Int} (h0 : 0 ≤ v) (h1 : v < 5) {Q : D → Sto → Prop} (q : ∀ c, abc c → Q (.str (U [c])) st) : Ens (gIx st (.str "abcab") (.int v)) Q := by
  have : v = 0 ∨ v = 1 ∨ v = 2 ∨ v = 3 ∨ v = 4 := by omega
  rcases this with rfl | rfl | rfl | rfl | rfl
  · exact ens_ixS (i := 0) (by decide) (c := 97) (by decide +kernel) (q _ (.inl rfl))
  · exact ens_ixS (i := 1) (by decide) (c := 98) (by decide +kernel) (q _ (.inr (.inl rfl)))
  · exact ens_ixS (i := 2) (by decide) (c := 99) (by decide +kernel) (q _ (.inr (.inr rfl)))
  · exact ens_ixS (i := 3) (by decide) (c := 97) (by decide +kernel) (q _ (.inl rfl))
  · exact ens_ixS (i := 4) (by decide) (c := 98) (by decide +kernel) (q _ (.inr (.inl rfl)))
theorem lc_pick {sl : Sl} {j : Nat} {rest : Sto} (h0 : ∀ d, gv (sl.set j (some d)) 0 = some (.ptr 0)) : ∀ (ds : List D) (es : List Nat) (xs : List Int), (∀ c ∈ es, abc c) → es.length + ds.length ≤ 1000 → ∀ {Q : List D → Sto → Prop}, (∀ es' ys, (∀ c ∈ es', abc c) → es'.length = es.length + ds.length → Q (chs es') (some (.lst (iDs ys)) :: rest)) →
    Ens (lcL (gNm j) tYesD (mBin gIx (mC (.str "abcab")) (mCall (callB 2 m_law_pick) (mCons (mVar 0) (mCons (mC (.int 5)) mNil)))) sl ds (chs es) (some (.lst (iDs xs)) :: rest)) Q
  | [], es, xs, ha, hl, Q, q => ens_ret (q es xs ha (by simp))
  | d :: r, es, xs, ha, hl, Q, q => by
    rw [List.length_cons] at hl
    show Ens (bnd (mBin gIx (mC (.str "abcab")) (mCall (callB 2 m_law_pick) (mCons (mVar 0) (mCons (mC (.int 5)) mNil))) (sl.set j (some d)) (some (.lst (iDs xs)) :: rest)) fun y st => if (chs es).length < sizeLine then lcL (gNm j) tYesD _ sl r (chs es ++ [y]) st else none) Q
    refine ens_bnd ?_
    refine ens_bin (ens_C (ens_call (ens_cons (ens_var (h0 d) (ens_cons (ens_C (ens_nil ?_)))))))
    refine s_pickB (by decide) xs fun v ys v0 v1 => ?_
    refine ens_abc v0 v1 fun c hc => ?_
    refine ens_ite (by unfold chs; rw [List.length_map]; unfold PySem.sizeLine; omega) ?_
    have e : chs es ++ [D.str (U [c])] = chs (es ++ [c]) := by unfold chs; rw [List.map_append]; rfl
    rw [e]
    refine lc_pick h0 r (es ++ [c]) ys (fun x m => ?_) (by rw [List.length_append, List.length_singleton]; omega) fun es' ys' h1 h2 => q es' ys' h1 (by rw [h2, List.length_append, List.length_singleton, List.length_cons]; omega)
    rcases List.mem_append.mp m with m | m
    · exact ha x m
    · rw [List.mem_singleton] at m; subst m; exact hc
def Sg (s : Str) : Prop := ∃ p w q, T s = p ++ w ++ q ∧ (p = [] ∨ p = [46]) ∧ (q = [] ∨ q = [46]) ∧ w ≠ [] ∧ w.length ≤ 4 ∧ ∀ c ∈ w, abc c
theorem ens_addS {c : Bool} {x y : Str} {Q : D → Sto → Prop} (h : x.length + y.length ≤ 1000000) (q : Q (.str (x ++ y)) st) : Ens (gAdd c st (.str x) (.str y)) Q := ens_ite (by unfold PySem.sizeLine; omega) (ens_ret q)
theorem s_signs (xs : List Int) : Ens (m_law_signs [.ptr 0] [some (.lst (iDs xs))]) fun d cs => ∃ s ys, d = .str s ∧ Sg s ∧ cs = [some (.lst (iDs ys))] := by
  refine ens_def [some (.ptr 0), none, none, none] rfl ?_
  unfold b_law_signs
  repeat walk_at "es1"
  refine ⟨rfl, ?_⟩
  repeat walk_at "es1"
  refine s_pickB (by decide) xs fun v ys v0 v1 => ?_
  refine ens_red rfl ?_
  repeat walk_at "es1"
  refine ⟨by omega, ?_⟩
  have hn : (rngD 0 ((1 : Int) + v).toNat).length = ((1 : Int) + v).toNat := by unfold rngD; rw [List.length_map, List.length_range]
  refine lc_pick (sl := [some (.ptr 0), none, none, none]) (j := 2) (fun _ => rfl) _ [] ys (fun _ m => (by cases m)) (by rw [hn]; show 0 + _ ≤ _; omega) fun w ys2 hw hl => ?_
  rw [hn] at hl
  have hl : w.length = ((1 : Int) + v).toNat := by rw [hl]; show 0 + _ = _; omega
  repeat walk_at "es1"
  refine ens_joinC (by omega) ?_
  have hwn : w ≠ [] := fun z => by rw [z] at hl; have : (0 : Nat) = ((1 : Int) + v).toNat := hl; omega
  have hw4 : w.length ≤ 4 := by omega
  have hlen : (U w).length ≤ 4 := by rw [← T_len, T_U]; exact hw4
  repeat walk_at "es1"
  refine s_pickB (by decide) ys2 fun u ys3 u0 u1 => ?_
  repeat walk_at "es1"
  have e1 : (Str.ofString ".").length = 1 := rfl
  have d1 : T (Str.ofString ".") = [46] := rfl
  by_cases k1 : u = 1
  · subst k1
    refine ens_eqI ⟨_, rfl, fun _ => ?_, fun z => (by cases z)⟩
    repeat walk_at "es1"
    refine ens_addS (by omega) ?_
    repeat walk_at "es1"
    refine ens_eqI ⟨_, rfl, fun z => (by cases z), fun _ => ?_⟩
    repeat walk_at "es1"
    refine ens_eqI ⟨_, rfl, fun z => (by cases z), fun _ => ?_⟩
    repeat walk_at "es1"
    exact ⟨_, ys3, rfl, ⟨[46], w, [], by rw [T_app, T_U, d1, List.append_nil], .inr rfl, .inl rfl, hwn, hw4, hw⟩, rfl⟩
  · refine ens_eqI ⟨_, rfl, fun z => absurd (of_decide_eq_true z) k1, fun _ => ?_⟩
    repeat walk_at "es1"
    by_cases k2 : u = 2
    · subst k2
      refine ens_eqI ⟨_, rfl, fun _ => ?_, fun z => (by cases z)⟩
      repeat walk_at "es1"
      refine ens_addS (by omega) ?_
      repeat walk_at "es1"
      refine ens_eqI ⟨_, rfl, fun z => (by cases z), fun _ => ?_⟩
      repeat walk_at "es1"
      exact ⟨_, ys3, rfl, ⟨[], w, [46], by rw [T_app, T_U, d1]; rfl, .inl rfl, .inr rfl, hwn, hw4, hw⟩, rfl⟩
    · refine ens_eqI ⟨_, rfl, fun z => absurd (of_decide_eq_true z) k2, fun _ => ?_⟩
      repeat walk_at "es1"
      by_cases k3 : u = 3
      · subst k3
        refine ens_eqI ⟨_, rfl, fun _ => ?_, fun z => (by cases z)⟩
        repeat walk_at "es1"
        refine ens_addS (by omega) ?_
        repeat walk_at "es1"
        refine ens_addS (by
          have : (Str.ofString "." ++ U w).length = 1 + (U w).length := by rw [← T_len, T_app, List.length_append, T_len, T_len]; rfl
          omega) ?_
        repeat walk_at "es1"
        exact ⟨_, ys3, rfl, ⟨[46], w, [46], by rw [T_app, T_app, T_U, d1], .inr rfl, .inr rfl, hwn, hw4, hw⟩, rfl⟩
      · refine ens_eqI ⟨_, rfl, fun z => absurd (of_decide_eq_true z) k3, fun _ => ?_⟩
        repeat walk_at "es1"
        exact ⟨_, ys3, rfl, ⟨[], w, [], by rw [T_U]; simp, .inl rfl, .inl rfl, hwn, hw4, hw⟩, rfl⟩
theorem s_signsB (xs : List Int) {Q : D → Sto → Prop} (h : ∀ s ys, Sg s → Q (.str s) (some (.lst (iDs ys)) :: st)) : Ens (callB 1 m_law_signs [.ptr 0] (some (.lst (iDs xs)) :: st)) Q :=
  ens_B1 rfl rfl (pfs_iDs xs) ((s_signs xs).imp fun d cs ⟨s, ys, e1, hs, e2⟩ => ⟨.lst (iDs ys), [], e2, pfs_iDs ys, by rw [e1]; rfl, by rw [e1]; exact h s ys hs⟩)
def lastD : Bool → List Nat → Bool
  | p, [] => p
  | _, c :: r => lastD (dgt c) r
theorem dd_app : ∀ (t u : List Nat) (p : Bool), dd p (t ++ u) = (dd p t || dd (lastD p t) u)
  | [], u, p => by simp [dd, lastD]
  | c :: r, u, p => by
    rw [List.cons_append, dd, dd, dd_app r u (dgt c), lastD, Bool.or_assoc]
theorem lastD_app : ∀ (t u : List Nat) (p : Bool), lastD p (t ++ u) = lastD (lastD p t) u
  | [], u, p => rfl
  | c :: r, u, p => by rw [List.cons_append, lastD, lastD, lastD_app r u]
theorem nd_app (t u : List Nat) : nd (t ++ u) = nd t ++ nd u := List.filter_append ..
theorem num_text : ∀ v : Int, v = 0 ∨ v = 1 ∨ v = 2 ∨ v = 3 ∨ v = 4 ∨ v = 9 → ∃ c, dgt c = true ∧ Str.ofString (toString v) = U [c] ∧ v.natAbs.log2 < 1920 := by
  intro v h
  rcases h with rfl | rfl | rfl | rfl | rfl | rfl
  · exact ⟨48, rfl, by decide +kernel, by decide +kernel⟩
  · exact ⟨49, rfl, by decide +kernel, by decide +kernel⟩
  · exact ⟨50, rfl, by decide +kernel, by decide +kernel⟩
  · exact ⟨51, rfl, by decide +kernel, by decide +kernel⟩
  · exact ⟨52, rfl, by decide +kernel, by decide +kernel⟩
  · exact ⟨57, rfl, by decide +kernel, by decide +kernel⟩
def sm (x : Str) : Prop := ∀ c ∈ T x, c < 1000
theorem sg_facts {s : Str} (h : Sg s) : (∀ c ∈ T s, dgt c = false ∧ c ≠ 124 ∧ c < 1000) ∧ s.length ≤ 6 ∧ smA (offR 46 (offL 46 (T s))) = true ∧ (offR 46 (offL 46 (T s))).length ≤ 12 ∧ T s ≠ [] := by
  obtain ⟨p, w, q, e, hp, hq, hw, hw4, ha⟩ := h
  have ab : ∀ c, abc c → dgt c = false ∧ c ≠ 124 ∧ c < 1000 ∧ c ≠ 46 ∧ sml c = true := fun c h => by
    rcases h with rfl | rfl | rfl <;> exact ⟨rfl, by decide, by decide, by decide, rfl⟩
  have e1 : offL 46 (p ++ w ++ q) = w ++ q := by
    cases w with
    | nil => exact absurd rfl hw
    | cons a r =>
      have ha1 := (ab a (ha a List.mem_cons_self)).2.2.2.1
      rcases hp with rfl | rfl
      · simp [offL, ha1]
      · simp [offL]
  have e2 : offR 46 (w ++ q) = w := by
    unfold offR
    rcases List.eq_nil_or_concat w with h | ⟨k, a, h⟩
    · exact absurd h hw
    · have ha1 := (ab a (ha a (by rw [h]; simp))).2.2.2.1
      rcases hq with rfl | rfl
      · rw [List.append_nil, h]
        have : (k.concat a).reverse = a :: k.reverse := by simp
        rw [this]
        simp [offL, ha1]
      · have : (w ++ [46]).reverse = 46 :: w.reverse := by simp
        rw [this]
        simp [offL]
  have mem : ∀ c ∈ T s, c = 46 ∨ abc c := fun c m => by
    rw [e] at m
    rcases List.mem_append.mp m with m | m
    · rcases List.mem_append.mp m with m | m
      · rcases hp with rfl | rfl
        · cases m
        · exact .inl (List.mem_singleton.mp m)
      · exact .inr (ha c m)
    · rcases hq with rfl | rfl
      · cases m
      · exact .inl (List.mem_singleton.mp m)
  refine ⟨fun c m => ?_, ?_, ?_, ?_, ?_⟩
  · rcases mem c m with rfl | h
    · exact ⟨rfl, by decide, by decide⟩
    · exact ⟨(ab c h).1, (ab c h).2.1, (ab c h).2.2.1⟩
  · rw [← T_len, e, List.length_append, List.length_append]
    rcases hp with rfl | rfl <;> rcases hq with rfl | rfl <;> simp <;> omega
  · rw [e, e1, e2]
    unfold smA
    rw [Bool.and_eq_true]
    refine ⟨List.all_eq_true.mpr fun c m => (ab c (ha c m)).2.2.2.2, ?_⟩
    cases w with
    | nil => exact absurd rfl hw
    | cons _ _ => rfl
  · rw [e, e1, e2]; omega
  · rw [e]
    intro z
    cases w with
    | nil => exact hw rfl
    | cons a r => simp at z
theorem pt_step (s t : Str) (c : Nat) (xs : List Int) (nu : Option D) (ht : t.length ≤ 1000) {R : D → Sto → Prop} :
    EnsS ((sSeq (sAsg (mBin gIx (mLst false (mCons (mC (.int 0)) (mCons (mC (.int 0)) (mCons (mC (.int 1)) (mCons (mC (.int 2)) (mCons (mC (.int 3)) (mCons (mC (.int 4)) (mCons (mC (.int 9)) (mCons (mC (.int 0)) mNil))))))))) (mCall (callB 2 m_law_pick) (mCons (mVar 0) (mCons (mC (.int 8)) mNil)))) (gNm 4))
    (sSeq (sIf (mOr (mB (mBin gGt (mVar 4) (mC (.int 0)))) (mB (mBin gEq (mCall (callB 2 m_law_pick) (mCons (mVar 0) (mCons (mC (.int 19)) mNil))) (mC (.int 1)))))
    (sAsg (mBin (gAdd false) (mVar 2) (mCB cStrI (mCons (mVar 4) mNil))) (gNm 2))
    sNext)
    (sIf (mB (mBin gNe (mVar 3) (mC (.str "|"))))
    (sAsg (mBin (gAdd false) (mVar 2) (mVar 3)) (gNm 2))
    sNext))) [some (.ptr 0), some (.str s), some (.str t), some (.str (U [c])), nu] [some (.lst (iDs xs))])
    (fun sl st => ∃ t' ys nu dig, sl = [some (.ptr 0), some (.str s), some (.str t'), some (.str (U [c])), nu] ∧ st = [some (.lst (iDs ys))] ∧ (dig = [] ∨ ∃ d, dig = [d] ∧ dgt d = true) ∧ T t' = T t ++ dig ++ (if c = 124 then [] else [c])) R := by
  have fin : ∀ (t' : Str) (ys : List Int) (nu : Option D) (dig : List Nat), t'.length ≤ 1001 → (dig = [] ∨ ∃ d, dig = [d] ∧ dgt d = true) → T t' = T t ++ dig → EnsS (sIf (mB (mBin gNe (mVar 3) (mC (.str "|"))))
    (sAsg (mBin (gAdd false) (mVar 2) (mVar 3)) (gNm 2))
    sNext [some (.ptr 0), some (.str s), some (.str t'), some (.str (U [c])), nu] [some (.lst (iDs ys))]) (fun sl st => ∃ t' ys nu dig, sl = [some (.ptr 0), some (.str s), some (.str t'), some (.str (U [c])), nu] ∧ st = [some (.lst (iDs ys))] ∧ (dig = [] ∨ ∃ d, dig = [d] ∧ dgt d = true) ∧ T t' = T t ++ dig ++ (if c = 124 then [] else [c])) R := fun t' ys nu dig hl hd e => by
    repeat walk_at "es1"
    refine ens_neS ⟨_, rfl, fun h => ?_, fun h => ?_⟩
    · have h : ¬ c = 124 := fun z => by subst z; cases h
      repeat walk_at "es1"
      refine ens_addS (by have : (U [c]).length = 1 := rfl; omega) ?_
      exact ⟨_, ys, nu, dig, rfl, rfl, hd, by rw [T_app, e, T_one, if_neg h]⟩
    · have h : c = 124 := by
        by_cases z : c = 124
        · exact z
        · have : decide (U [c] = Str.ofString "|") = false := decide_eq_false fun q => z ((U_eq (b := 124)).mp q)
          rw [this] at h; cases h
      exact ens_next ⟨t', ys, nu, dig, rfl, rfl, hd, by rw [e, if_pos h, List.append_nil]⟩
  repeat walk_at "es1"
  refine ⟨(by decide : (8 : Nat) ≤ 1000), ?_⟩
  repeat walk_at "es1"
  refine s_pickB (by decide) xs fun v ys v0 v1 => ?_
  have pick : ∃ n : Int, atI [D.int 0, .int 0, .int 1, .int 2, .int 3, .int 4, .int 9, .int 0] v = some (.int n) ∧ (n = 0 ∨ n = 1 ∨ n = 2 ∨ n = 3 ∨ n = 4 ∨ n = 9) := by
    have : v = 0 ∨ v = 1 ∨ v = 2 ∨ v = 3 ∨ v = 4 ∨ v = 5 ∨ v = 6 ∨ v = 7 := by omega
    rcases this with rfl | rfl | rfl | rfl | rfl | rfl | rfl | rfl
    · exact ⟨0, rfl, by omega⟩
    · exact ⟨0, rfl, by omega⟩
    · exact ⟨1, rfl, by omega⟩
    · exact ⟨2, rfl, by omega⟩
    · exact ⟨3, rfl, by omega⟩
    · exact ⟨4, rfl, by omega⟩
    · exact ⟨9, rfl, by omega⟩
    · exact ⟨0, rfl, by omega⟩
  obtain ⟨n, en, hn⟩ := pick
  obtain ⟨d, hd, eT, hlog⟩ := num_text n hn
  refine ens_ix rfl en ?_
  have put : ∀ ys : List Int, EnsS (sAsg (mBin (gAdd false) (mVar 2) (mCB cStrI (mCons (mVar 4) mNil))) (gNm 2) [some (.ptr 0), some (.str s), some (.str t), some (.str (U [c])), some (.int n)] [some (.lst (iDs ys))]) (fun sl st => EnsS (sIf (mB (mBin gNe (mVar 3) (mC (.str "|"))))
    (sAsg (mBin (gAdd false) (mVar 2) (mVar 3)) (gNm 2))
    sNext sl st) (fun sl st => ∃ t' ys nu dig, sl = [some (.ptr 0), some (.str s), some (.str t'), some (.str (U [c])), nu] ∧ st = [some (.lst (iDs ys))] ∧ (dig = [] ∨ ∃ d, dig = [d] ∧ dgt d = true) ∧ T t' = T t ++ dig ++ (if c = 124 then [] else [c])) R) R := fun ys => by
    repeat walk_at "es1"
    refine ens_red (x := .str (U [d])) (by
      show (if n.natAbs.log2 < 1920 then M.ret (D.str (Str.ofString (toString n))) _ else none) = _
      rw [if_pos hlog, eT]) ?_
    refine ens_addS (by have : (U [d]).length = 1 := rfl; omega) ?_
    have hl : (t ++ U [d]).length = t.length + 1 := by rw [← T_len, T_app, List.length_append, T_len, T_one]; rfl
    exact fin (t ++ U [d]) ys _ [d] (by omega) (.inr ⟨d, rfl, hd⟩) (by rw [T_app, T_one])
  repeat walk_at "es1"
  refine ens_red rfl ⟨_, rfl, fun _ => ⟨fun _ => put ys, fun z => (by cases z)⟩, fun _ => ?_⟩
  repeat walk_at "es1"
  refine s_pickB (by decide) ys fun u zs u0 u1 => ?_
  repeat walk_at "es1"
  refine ens_eqI ⟨_, rfl, fun _ => put zs, fun _ => ?_⟩
  exact ens_next (fin t zs _ [] (by omega) (.inl rfl) (by rw [List.append_nil]))
def Pt (s p : Str) : Prop := nd (T p) = T s ∧ dd false (T p) = false ∧ p.length ≤ 100 ∧ sm p
theorem dig_low {d : Nat} (h : dgt d = true) : d < 1000 := by
  unfold dgt at h
  rw [Bool.and_eq_true, decide_eq_true_eq, decide_eq_true_eq] at h
  omega
theorem pt_loop (s : Str) : ∀ (l : List Nat) (t : Str) (xs : List Int) (a nu : Option D), (∀ c ∈ l, dgt c = false ∧ c ≠ 124 ∧ c < 1000) → dd false (T t) = false → lastD false (T t) = false → sm t → t.length + 2 * l.length ≤ 900 → ∀ {R : D → Sto → Prop},
    EnsS (forL (gNm 3) (sSeq (sAsg (mBin gIx (mLst false (mCons (mC (.int 0)) (mCons (mC (.int 0)) (mCons (mC (.int 1)) (mCons (mC (.int 2)) (mCons (mC (.int 3)) (mCons (mC (.int 4)) (mCons (mC (.int 9)) (mCons (mC (.int 0)) mNil))))))))) (mCall (callB 2 m_law_pick) (mCons (mVar 0) (mCons (mC (.int 8)) mNil)))) (gNm 4))
    (sSeq (sIf (mOr (mB (mBin gGt (mVar 4) (mC (.int 0)))) (mB (mBin gEq (mCall (callB 2 m_law_pick) (mCons (mVar 0) (mCons (mC (.int 19)) mNil))) (mC (.int 1)))))
    (sAsg (mBin (gAdd false) (mVar 2) (mCB cStrI (mCons (mVar 4) mNil))) (gNm 2))
    sNext)
    (sIf (mB (mBin gNe (mVar 3) (mC (.str "|"))))
    (sAsg (mBin (gAdd false) (mVar 2) (mVar 3)) (gNm 2))
    sNext))) (chs (l ++ [124])) [some (.ptr 0), some (.str s), some (.str t), a, nu] [some (.lst (iDs xs))])
    (fun sl st => ∃ p ys a nu, sl = [some (.ptr 0), some (.str s), some (.str p), a, nu] ∧ st = [some (.lst (iDs ys))] ∧ nd (T p) = nd (T t) ++ l ∧ dd false (T p) = false ∧ sm p ∧ p.length ≤ t.length + 2 * l.length + 1) R
  | [], t, xs, a, nu, hl, h1, h2, h3, h4, R => by
    refine ens_fcons (ens_red rfl ?_)
    refine Ens.imp (pt_step s t 124 xs nu (by omega) (R := R)) fun f st h => ?_
    cases f with
    | bk _ => exact h
    | ct _ => exact h
    | rt d => exact h
    | nx sl =>
      obtain ⟨t', ys, nu', dig, rfl, rfl, hd, e⟩ := h
      rw [if_pos rfl, List.append_nil] at e
      refine ens_fnil ⟨t', ys, _, nu', rfl, rfl, ?_, ?_, ?_, ?_⟩
      · rw [e, nd_app]
        rcases hd with rfl | ⟨d, rfl, hd⟩
        · rfl
        · rw [nd_cons, if_pos hd]; rfl
      · rw [e, dd_app, h1, h2]
        rcases hd with rfl | ⟨d, rfl, hd⟩ <;> rfl
      · intro c m
        rw [e] at m
        rcases List.mem_append.mp m with m | m
        · exact h3 c m
        · rcases hd with rfl | ⟨d, rfl, hd⟩
          · cases m
          · rw [List.mem_singleton] at m; subst m; exact dig_low hd
      · have := congrArg List.length e
        rw [T_len, List.length_append, T_len] at this
        rcases hd with rfl | ⟨d, rfl, hd⟩ <;> simp at this <;> simp <;> omega
  | c :: r, t, xs, a, nu, hl, h1, h2, h3, h4, R => by
    obtain ⟨c1, c2, c3⟩ := hl c List.mem_cons_self
    rw [List.length_cons] at h4
    refine ens_fcons (ens_red rfl ?_)
    refine Ens.imp (pt_step s t c xs nu (by omega) (R := R)) fun f st h => ?_
    cases f with
    | bk _ => exact h
    | ct _ => exact h
    | rt d => exact h
    | nx sl =>
      obtain ⟨t', ys, nu', dig, rfl, rfl, hd, e⟩ := h
      rw [if_neg c2] at e
      have en : nd (T t') = nd (T t) ++ [c] := by
        rw [e, nd_app, nd_app, nd_cons c [], if_neg (by rw [c1]; exact Bool.false_ne_true)]
        rcases hd with rfl | ⟨d, rfl, hd⟩
        · simp [nd]
        · rw [nd_cons, if_pos hd]; simp [nd]
      have edd : dd false (T t') = false := by
        rw [e, dd_app, dd_app, h1, h2]
        rcases hd with rfl | ⟨d, rfl, hd⟩
        · simp [dd, c1]
        · simp [dd, c1]
      have el : lastD false (T t') = false := by
        rw [e, lastD_app]
        exact c1
      have es' : sm t' := by
        intro x m
        rw [e] at m
        rcases List.mem_append.mp m with m | m
        · rcases List.mem_append.mp m with m | m
          · exact h3 x m
          · rcases hd with rfl | ⟨d, rfl, hd⟩
            · cases m
            · rw [List.mem_singleton] at m; subst m; exact dig_low hd
        · rw [List.mem_singleton] at m; subst m; exact c3
      have elen : t'.length ≤ t.length + 2 := by
        have := congrArg List.length e
        rw [T_len, List.length_append, List.length_append, T_len] at this
        rcases hd with rfl | ⟨d, rfl, hd⟩ <;> simp at this <;> omega
      have ih := pt_loop s r t' ys (some (.str (U [c]))) nu' (fun x m => hl x (List.mem_cons_of_mem _ m)) edd el es' (by omega) (R := R)
      refine Ens.imp ih fun f st h => ?_
      cases f with
      | bk _ => exact h
      | ct _ => exact h
      | rt d => exact h
      | nx sl =>
        obtain ⟨p, zs, a', nu2, e1, e2, e3, e4, e5, e6⟩ := h
        exact ⟨p, zs, a', nu2, e1, e2, by rw [e3, en, List.append_assoc]; rfl, e4, e5, by rw [List.length_cons]; omega⟩
theorem s_lpat (s : Str) (hs : Sg s) (xs : List Int) : Ens (m_law_pattern [.ptr 0, .str s] [some (.lst (iDs xs))]) fun d cs => ∃ p ys, d = .str p ∧ Pt s p ∧ cs = [some (.lst (iDs ys))] := by
  obtain ⟨f1, f2, _⟩ := sg_facts hs
  refine ens_def [some (.ptr 0), some (.str s), none, none, none] rfl ?_
  unfold b_law_pattern
  have e1 : (Str.ofString "|").length = 1 := rfl
  repeat walk_at "es1"
  refine ens_addS (by omega) ?_
  refine ⟨_, .inr (.inr (.inl ⟨_, rfl, rfl⟩)), ?_⟩
  rw [chrD_T, T_app]
  show EnsS (forL _ _ (chs (T s ++ [124])) _ _) _ _
  refine Ens.imp (pt_loop s (T s) "" xs none none f1 rfl rfl (fun c m => by cases m) (by rw [T_len]; show 0 + _ ≤ _; omega) (R := fun d cs => ∃ p ys, d = .str p ∧ Pt s p ∧ cs = [some (.lst (iDs ys))])) fun f st h => ?_
  cases f with
  | bk _ => exact h
  | ct _ => exact h
  | rt d => exact h
  | nx sl =>
    obtain ⟨p, ys, a, nu, rfl, rfl, e3, e4, e5, e6⟩ := h
    show EnsS _ _ _
    repeat walk_at "es1"
    refine ⟨p, ys, rfl, ⟨e3, e4, ?_, e5⟩, rfl⟩
    have : (Str.ofString "").length = 0 := rfl
    rw [T_len] at e6
    omega
theorem s_lpatB (s : Str) (hs : Sg s) (xs : List Int) {Q : D → Sto → Prop} (h : ∀ p ys, Pt s p → Q (.str p) (some (.lst (iDs ys)) :: st)) : Ens (callB 2 m_law_pattern [.ptr 0, .str s] (some (.lst (iDs xs)) :: st)) Q :=
  ens_B1 rfl rfl (pfs_iDs xs) ((s_lpat s hs xs).imp fun d cs ⟨p, ys, e1, hp, e2⟩ => ⟨.lst (iDs ys), [], e2, pfs_iDs ys, by rw [e1]; rfl, by rw [e1]; exact h p ys hp⟩)
theorem abc_f {c : Nat} (h : abc c) : c ≠ 45 ∧ sml c = true ∧ c < 1000 := by
  rcases h with rfl | rfl | rfl <;> exact ⟨by decide, rfl, by decide⟩
theorem adj_snoc {c : Nat} (hc : c ≠ 45) : ∀ l : List Nat, adj 45 (l ++ [c]) = adj 45 l
  | [] => rfl
  | [a] => by simp [adj, hc]
  | a :: b :: r => by
    have ih := adj_snoc hc (b :: r)
    rw [List.cons_append] at ih
    show adj 45 (a :: b :: (r ++ [c])) = adj 45 (a :: b :: r)
    rw [adj, adj, ih]
theorem adj_snoc2 : ∀ l : List Nat, l.getLast? ≠ some 45 → adj 45 (l ++ [45]) = adj 45 l
  | [], _ => rfl
  | [a], h => by
    have : a ≠ 45 := fun z => h (by rw [z]; rfl)
    simp [adj, this]
  | a :: b :: r, h => by
    have ih := adj_snoc2 (b :: r) (by rw [List.getLast?_cons_cons] at h; exact h)
    rw [List.cons_append] at ih
    show adj 45 (a :: b :: (r ++ [45])) = adj 45 (a :: b :: r)
    rw [adj, adj, ih]
def Mk (l : List Nat) : Prop := l ≠ [] ∧ l.head? ≠ some 45 ∧ l.getLast? ≠ some 45 ∧ adj 45 l = false
theorem mk_gE {l : List Nat} (h : Mk l) : gE l = true := by
  obtain ⟨h1, h2, h3, h4⟩ := h
  unfold gE
  rw [h4, decide_eq_false h2, decide_eq_false h3]
  cases l with
  | nil => exact absurd rfl h1
  | cons _ _ => rfl
theorem mk_snoc {l : List Nat} {c : Nat} (hc : c ≠ 45) (h : Mk l) : Mk (l ++ [c]) := by
  obtain ⟨h1, h2, h3, h4⟩ := h
  refine ⟨by simp, ?_, by simpa using hc, by rw [adj_snoc hc, h4]⟩
  cases l with
  | nil => exact absurd rfl h1
  | cons _ _ => exact h2
theorem mk_snoc2 {l : List Nat} {c : Nat} (hc : c ≠ 45) (h : Mk l) : Mk (l ++ [45] ++ [c]) := by
  obtain ⟨h1, h2, h3, h4⟩ := h
  refine ⟨by simp, ?_, by simpa using hc, by rw [adj_snoc hc, adj_snoc2 _ h3, h4]⟩
  cases l with
  | nil => exact absurd rfl h1
  | cons _ _ => exact h2
theorem lts_app (a b : List Nat) : lts (a ++ b) = lts a ++ lts b := List.filter_append ..
theorem ens_mark {v : Int} (h0 : 0 ≤ v) (h1 : v < 2) {Q : D → Sto → Prop} (q0 : Q (.str "") st) (q1 : Q (.str "-") st) : Ens (gIx st (.lst [.str "", .str "-"]) (.int v)) Q := by
  have : v = 0 ∨ v = 1 := by omega
  rcases this with rfl | rfl
  · exact ens_red rfl q0
  · exact ens_red rfl q1
theorem mark_loop (sl0 sl1 sl2 sl3 sl4 sl5 sl6 : Option D) (h0 : sl0 = some (.ptr 0)) (rest : Sto) : ∀ (l : List Nat) (m : Str) (a : Option D) (xs : List Int), (∀ c ∈ l, abc c) → Mk (T m) → sm m → m.length + 2 * l.length ≤ 900 → ∀ {R : D → Sto → Prop},
    EnsS (forL (gNm 8) (sAsg (mBin (gAdd false) (mBin (gAdd false) (mVar 7) (mBin gIx (mLst false (mCons (mC (.str "")) (mCons (mC (.str "-")) mNil))) (mCall (callB 2 m_law_pick) (mCons (mVar 0) (mCons (mC (.int 2)) mNil))))) (mVar 8)) (gNm 7)) (chs l) [sl0, sl1, sl2, sl3, sl4, sl5, sl6, some (.str m), a] (some (.lst (iDs xs)) :: rest))
    (fun sl st => ∃ (p : Str) (ys : List Int) (a : Option D), sl = [sl0, sl1, sl2, sl3, sl4, sl5, sl6, some (.str p), a] ∧ st = some (.lst (iDs ys)) :: rest ∧ Mk (T p) ∧ lts (T p) = lts (T m) ++ l ∧ sm p ∧ p.length ≤ m.length + 2 * l.length) R
  | [], m, a, xs, hl, h1, h2, h3, R => ens_fnil ⟨m, xs, a, rfl, rfl, h1, by rw [List.append_nil], h2, Nat.le_refl _⟩
  | c :: r, m, a, xs, hl, h1, h2, h3, R => by
    subst h0
    rw [List.length_cons] at h3
    obtain ⟨c1, c2, c3⟩ := abc_f (hl c List.mem_cons_self)
    have lc : lts [c] = [c] := by unfold lts; rw [List.filter_cons_of_pos (by simp [c1])]; rfl
    have fin : ∀ (p : Str) (ys : List Int), T p = T m ++ [c] ∨ T p = T m ++ [45] ++ [c] → EnsS (forL (gNm 8) (sAsg (mBin (gAdd false) (mBin (gAdd false) (mVar 7) (mBin gIx (mLst false (mCons (mC (.str "")) (mCons (mC (.str "-")) mNil))) (mCall (callB 2 m_law_pick) (mCons (mVar 0) (mCons (mC (.int 2)) mNil))))) (mVar 8)) (gNm 7)) (chs r) [some (.ptr 0), sl1, sl2, sl3, sl4, sl5, sl6, some (.str p), some (.str (U [c]))] (some (.lst (iDs ys)) :: rest))
        (fun sl st => ∃ (p : Str) (ys : List Int) (a : Option D), sl = [some (.ptr 0), sl1, sl2, sl3, sl4, sl5, sl6, some (.str p), a] ∧ st = some (.lst (iDs ys)) :: rest ∧ Mk (T p) ∧ lts (T p) = lts (T m) ++ (c :: r) ∧ sm p ∧ p.length ≤ m.length + 2 * (c :: r).length) R := fun p ys e => by
      have e1 : Mk (T p) := by
        rcases e with e | e <;> rw [e]
        · exact mk_snoc c1 h1
        · exact mk_snoc2 c1 h1
      have e2 : lts (T p) = lts (T m) ++ [c] := by
        rcases e with e | e <;> rw [e]
        · rw [lts_app, lc]
        · rw [lts_app, lts_app, lc]
          show lts (T m) ++ [] ++ [c] = _
          rw [List.append_nil]
      have e3 : sm p := by
        intro x mm
        rcases e with e | e <;> rw [e] at mm
        · rcases List.mem_append.mp mm with mm | mm
          · exact h2 x mm
          · rw [List.mem_singleton] at mm; subst mm; exact c3
        · rcases List.mem_append.mp mm with mm | mm
          · rcases List.mem_append.mp mm with mm | mm
            · exact h2 x mm
            · rw [List.mem_singleton] at mm; subst mm; decide
          · rw [List.mem_singleton] at mm; subst mm; exact c3
      have e4 : p.length ≤ m.length + 2 := by
        rcases e with e | e <;> have := congrArg List.length e <;> simp [T_len] at this <;> omega
      have ih := mark_loop (some (.ptr 0)) sl1 sl2 sl3 sl4 sl5 sl6 rfl rest r p (some (.str (U [c]))) ys (fun x mm => hl x (List.mem_cons_of_mem _ mm)) e1 e3 (by omega) (R := R)
      refine Ens.imp ih fun f st h => ?_
      cases f with
      | bk _ => exact h
      | ct _ => exact h
      | rt d => exact h
      | nx sl =>
        obtain ⟨p', zs, a', f1, f2, f3, f4, f5, f6⟩ := h
        exact ⟨p', zs, a', f1, f2, f3, by rw [f4, e2, List.append_assoc]; rfl, f5, by rw [List.length_cons]; omega⟩
    refine ens_fcons (ens_red rfl ?_)
    have d0 : (Str.ofString "").length = 0 := rfl
    have d1 : (Str.ofString "-").length = 1 := rfl
    have du : (U [c]).length = 1 := by rw [← T_len, T_one]; rfl
    repeat walk_at "es1"
    refine ⟨(by decide : (2 : Nat) ≤ 1000), ?_⟩
    repeat walk_at "es1"
    refine s_pickB (by decide : (0:Int) < 2) xs fun v ys v0 v1 => ?_
    refine ens_mark v0 v1 ?_ ?_
    · refine ens_addS (by omega) ?_
      repeat walk_at "es1"
      refine ens_addS (by rw [← T_len, T_app, List.length_append, T_len, T_len]; omega) ?_
      repeat walk_at "es1"
      refine fin _ ys (.inl ?_)
      rw [T_app, T_app, T_one]
      show T m ++ [] ++ [c] = _
      rw [List.append_nil]
    · refine ens_addS (by omega) ?_
      repeat walk_at "es1"
      refine ens_addS (by rw [← T_len, T_app, List.length_append, T_len, T_len]; omega) ?_
      repeat walk_at "es1"
      refine fin _ ys (.inr ?_)
      rw [T_app, T_app, T_one]
      rfl
theorem cut_tail (z : Str) : T (cutS z (some 1) none) = (T z).drop 1 := cut_2 z
end
section
open PySem PySem.Spec L2 M
variable {st : Sto}
/-- a digit's number -/
def dv (c : Nat) : Int := (c : Int) - 48
theorem int_dv {c : Nat} (h : dgt c = true) : PySem.intText? (U [c]) = some (dv c) := by
  unfold dgt at h
  rw [Bool.and_eq_true, decide_eq_true_eq, decide_eq_true_eq] at h
  have : c = 48 ∨ c = 49 ∨ c = 50 ∨ c = 51 ∨ c = 52 ∨ c = 53 ∨ c = 54 ∨ c = 55 ∨ c = 56 ∨ c = 57 := by omega
  rcases this with rfl | rfl | rfl | rfl | rfl | rfl | rfl | rfl | rfl | rfl <;> decide +kernel
/-- a pattern's numbers -/
def nums : List Int → List Nat → List Int
  | ns, [] => ns
  | ns, c :: r => if dgt c = true then nums (ns.set (ns.length - 1) (dv c)) r else nums (ns ++ [0]) r
/-- the places behind the parts -/
def cum : Nat → List (List Nat) → List Int
  | _, [] => []
  | a, p :: r => ((a + p.length : Nat) : Int) :: cum (a + p.length) r
theorem cutD_init (ds : List D) : cutD ds none (some (-1)) = ds.dropLast := by
  unfold cutD
  have e : HT.sIx ds.length ds.length (some (-1)) = ds.length - 1 := by
    show ((-1 : Int) + (ds.length : Int)).toNat = _
    omega
  rw [e]
  show (ds.drop 0).take (ds.length - 1 - 0) = _
  rw [List.drop_zero, Nat.sub_zero, List.dropLast_eq_take]
theorem pat_loop (x : Str) : ∀ (l : List Nat) (sg : Str) (ns : List Int) (fl : Bool) (a b : Option D), ns ≠ [] → ns.length + l.length ≤ 1000000 → sg.length + l.length ≤ 1000000 →
    EnsS (forL (gNm 4) (sIf (mNot (mTru (mCall (callB 1 m_is_digit) (mCons (mVar 4) mNil))))
    (sSeq (sAug 1 (mVar 4) gAddS)
    (sSeq (sDrop (mBM "list" gAppend (mVar 2) (mCons (mC (.int 0)) mNil)))
    (sAsg (mC (.bl false)) (gNm 3))))
    (sIf (mTru (mVar 3))
    (sRet (mTup (mCons (mC (.str "")) (mCons (mLst false mNil) mNil))))
    (sSeq (sAsg (mCB cIntS (mCons (mVar 4) mNil)) (gSet (mVar 2) (mUn gNeg (mC (.int 1))) gSetL))
    (sAsg (mC (.bl true)) (gNm 3))))) (l.map fun c => .str (U [c])) [some (.str x), some (.str sg), some (.ptr 0), some (.bl fl), a, b] [some (.lst (iDs ns))])
    (fun sl st => dd fl l = false ∧ ∃ sg' ns' fl' a, sl = [some (.str x), some (.str sg'), some (.ptr 0), some (.bl fl'), a, b] ∧ st = [some (.lst (iDs ns'))] ∧ T sg' = T sg ++ nd l ∧ ns' = nums ns l) (fun d _ => dd fl l = true ∧ d = .tup [.str "", .lst []])
  | [], sg, ns, fl, a, b, _, _, _ => ens_fnil ⟨rfl, sg, ns, fl, a, rfl, rfl, by simp [nd], rfl⟩
  | c :: r, sg, ns, fl, a, b, hn, h1, h2 => by
    rw [List.length_cons] at h1 h2
    refine ens_fcons (ens_red rfl ?_)
    repeat walk_at "es1"
    refine r_is_digit c ?_
    repeat walk_at "es1"
    refine ⟨fun h => ?_, fun h => ?_⟩
    · have h : dgt c = false := by simpa using h
      have ed : dd fl (c :: r) = dd false r := by rw [dd, h]; simp
      repeat walk_at "es1"
      refine ens_ite (by show sg.length + 1 ≤ sizeLine; unfold PySem.sizeLine; omega) (ens_ret ?_)
      repeat walk_at "es1"
      refine ⟨rfl, ?_⟩
      repeat walk_at "es1"
      refine ens_app rfl (by rw [iDs_len]; unfold PySem.sizeLine; omega) ?_
      repeat walk_at "es1"
      have e2 : iDs ns ++ [D.int 0] = iDs (ns ++ [0]) := by rw [iDs_app]; rfl
      have ih := pat_loop x r (sg ++ U [c]) (ns ++ [0]) false (some (.str (U [c]))) b (by simp) (by rw [List.length_append, List.length_singleton]; omega) (by
        have : (sg ++ U [c]).length = sg.length + 1 := by rw [← T_len, T_app, List.length_append, T_len, T_one]; rfl
        omega)
      rw [ed, nd_cons, if_neg (by rw [h]; exact Bool.false_ne_true)]
      rw [← e2] at ih
      refine Ens.imp ih fun f st q => ?_
      cases f with
      | nx sl =>
        obtain ⟨q1, sg', ns', fl', a', e1, e3, e4, e5⟩ := q
        exact ⟨q1, sg', ns', fl', a', e1, e3, by rw [e4, T_app, T_one, List.append_assoc]; rfl, by rw [e5, nums, if_neg (by rw [h]; exact Bool.false_ne_true)]⟩
      | rt d => exact q
      | bk _ => exact q
      | ct _ => exact q
    · have h : dgt c = true := by simpa using h
      repeat walk_at "es1"
      refine ⟨fun hf => ?_, fun hf => ?_⟩
      · subst hf
        repeat walk_at "es1"
        refine ⟨by decide, ?_⟩
        repeat walk_at "es1"
        exact ⟨by decide, by rw [dd, h]; rfl, rfl⟩
      · subst hf
        have hnn := int_dv h
        generalize hdv : dv c = n at hnn
        refine ens_seq (ens_asgG ?_)
        repeat walk_at "es1"
        refine ens_red (x := .int n) (by
          show (match PySem.intText? (U [c]) with
            | some n => if (U [c]).length ≤ 640 then M.ret (D.int n) _ else none
            | none => none) = _
          rw [hnn]
          exact if_pos (by decide : (1 : Nat) ≤ 640)) ?_
        refine ens_set ?_
        repeat walk_at "es1"
        refine ens_red rfl ?_
        have hne : iDs ns ≠ [] := fun z => hn (by
          have := congrArg List.length z
          rw [iDs_len] at this
          exact List.length_eq_zero_iff.mp this)
        refine ens_red (set_last hne) ?_
        repeat walk_at "es1"
        have ih := pat_loop x r sg (ns.set (ns.length - 1) n) true (some (.str (U [c]))) b (fun z => hn (by
          have := congrArg List.length z
          rw [List.length_set] at this
          exact List.length_eq_zero_iff.mp this)) (by rw [List.length_set]; omega) (by omega)
        have ed : dd false (c :: r) = dd true r := by rw [dd, h]; rfl
        rw [ed, nd_cons, if_pos h, iDs_len, set_iDs, nums, if_pos h, hdv]
        exact ih
theorem r_pattern (x : Str) (hx : x.length ≤ 100000) {Q : D → Sto → Prop} (q : ∀ k ds, T k = patK (T x) → (patK (T x) ≠ [] → ds = iDs (nums [0] (T x))) → Q (.tup [.str k, .lst ds]) st) : Ens (callB 1 m_pattern [.str x] st) Q := by
  refine ens_B0 rfl rfl rfl ?_
  refine ens_def [some (.str x), none, none, none, none, none] rfl ?_
  unfold b_pattern
  repeat walk_at "es1"
  refine ⟨(by decide : (1 : Nat) ≤ 1000), ?_⟩
  repeat walk_at "es1"
  refine ⟨_, .inr (.inr (.inl ⟨_, rfl, rfl⟩)), ?_⟩
  rw [chrD_T]
  refine Ens.imp (pat_loop x (T x) "" [0] false none none (by simp) (by rw [T_len]; simp; omega) (by rw [T_len]; show 0 + _ ≤ _; omega)) fun f s h => ?_
  have small : ∀ l : List Nat, ∀ p : Bool, dd p l = true → p = false → patK l = [] := fun l p h e => by subst e; unfold patK; rw [if_pos h]
  cases f with
  | bk _ => exact h
  | ct _ => exact h
  | rt d =>
    obtain ⟨h1, rfl⟩ := h
    exact ⟨rfl, q "" [] (by rw [small _ _ h1 rfl]; rfl) (fun z => absurd (small _ _ h1 rfl) z)⟩
  | nx sl =>
    obtain ⟨h1, sg, ns, fl, a, rfl, rfl, e, en⟩ := h
    have e : T sg = nd (T x) := e
    show EnsS _ _ _
    have hsl : sg.length ≤ 100000 := by
      rw [← T_len, e]
      refine Nat.le_trans (List.length_filter_le _ _) ?_
      rw [T_len]; exact hx
    repeat walk_at "es1"
    refine ⟨rfl, ?_⟩
    repeat walk_at "es1"
    refine ens_ite (by unfold PySem.sizeLine; omega) (ens_ret ?_)
    refine ⟨rfl, ?_⟩
    repeat walk_at "es1"
    have hp : (Txt.removeprefix sg (U [46])).length ≤ 100000 := by
      rw [← T_len, T_prefix]
      refine Nat.le_trans ?_ hsl
      rw [← T_len]
      exact offL_len _ _
    refine ens_ite (by unfold PySem.sizeLine; exact Nat.le_trans hp (by decide)) (ens_ret ?_)
    have eT : T (Txt.removesuffix (Txt.removeprefix sg (U [46])) (U [46])) = offR 46 (offL 46 (nd (T x))) := by rw [T_suffix, T_prefix, e]
    revert eT
    show T (Txt.removesuffix (Txt.removeprefix sg (U [46])) (U [46])) = _ → _
    generalize hw : Txt.removesuffix (Txt.removeprefix sg (U [46])) (U [46]) = w
    intro eT
    rw [show (Str.ofString ".") = U [46] from rfl, hw]
    have hww : w.length ≤ 100000 := by
      rw [← T_len, eT]
      unfold offR
      rw [List.length_reverse]
      refine Nat.le_trans (offL_len _ _) ?_
      rw [List.length_reverse]
      refine Nat.le_trans (offL_len _ _) ?_
      rw [← e, T_len]; exact hsl
    have key : patK (T x) = if (smA (T w) && decide ((T w).length ≤ 12)) = true then T sg else [] := by
      unfold patK
      rw [h1, if_neg Bool.false_ne_true, ← eT, e]
    have bad : smA (T w) = false ∨ ¬ (T w).length ≤ 12 → patK (T x) = [] := fun h => by
      rw [key, if_neg]
      rcases h with h | h
      · rw [h]; exact Bool.false_ne_true
      · rw [decide_eq_false h, Bool.and_false]; exact Bool.false_ne_true
    repeat walk_at "es1"
    refine r_are_small w ?_
    repeat walk_at "es1"
    refine ⟨fun h => ?_, fun h => ?_⟩
    · have h : smA (T w) = false := by simpa using h
      refine ⟨fun _ => ?_, fun z => (by cases z)⟩
      repeat walk_at "es1"
      refine ⟨(by decide : (0 : Nat) ≤ 1000), ?_⟩
      repeat walk_at "es1"
      exact ⟨(by decide : (2 : Nat) ≤ 1000), rfl, q "" [] (by rw [bad (.inl h)]; rfl) (fun z => absurd (bad (.inl h)) z)⟩
    · have h : smA (T w) = true := by simpa using h
      repeat walk_at "es1"
      refine ens_ite (by unfold PySem.sizeLine; omega) (ens_ret ?_)
      repeat walk_at "es1"
      refine ens_red rfl ⟨_, rfl, fun h2 => ?_, fun h2 => ?_⟩
      · have h2 : (12 : Int) < (w.length : Int) := of_decide_eq_true h2
        repeat walk_at "es1"
        refine ⟨(by decide : (0 : Nat) ≤ 1000), ?_⟩
        repeat walk_at "es1"
        exact ⟨(by decide : (2 : Nat) ≤ 1000), rfl, q "" [] (by rw [bad (.inr (by rw [T_len]; omega))]; rfl) (fun z => absurd (bad (.inr (by rw [T_len]; omega))) z)⟩
      · have h2 : ¬ (12 : Int) < (w.length : Int) := of_decide_eq_false h2
        repeat walk_at "es1"
        refine ⟨(by decide : (2 : Nat) ≤ 1000), ?_, q sg (iDs ns) (by rw [key, if_pos (by rw [h, decide_eq_true (by rw [T_len]; omega)]; rfl)]) (fun _ => by rw [en])⟩
        show (true && (pfs (iDs ns) && true)) = true
        rw [pfs_iDs]; rfl
theorem div_loop (x : Str) : ∀ (ys : List Str) (lt : Str) (ns : List Int) (b : Option D), lt.length + (ys.map (·.length)).sum ≤ 1000000 → ns.length + ys.length ≤ 1000000 →
    EnsS (forL (gNm 3) (sSeq (sIf (mNot (mTru (mCall (callB 1 m_are_small) (mCons (mVar 3) mNil))))
    (sRet (mTup (mCons (mC (.str "")) (mCons (mLst false mNil) mNil))))
    sNext)
    (sSeq (sAug 1 (mVar 3) gAddS)
    (sDrop (mBM "list" gAppend (mVar 2) (mCons (mCB cLen (mCons (mVar 1) mNil)) mNil))))) (ys.map .str) [some (.str x), some (.str lt), some (.ptr 0), b] [some (.lst (iDs ns))])
    (fun sl st => ys.all (fun y => smA (T y)) = true ∧ ∃ lt' ns' b', sl = [some (.str x), some (.str lt'), some (.ptr 0), b'] ∧ st = [some (.lst (iDs ns'))] ∧ T lt' = T lt ++ (ys.map T).flatten ∧ ns' = ns ++ cum lt.length (ys.map T)) (fun d _ => ys.all (fun y => smA (T y)) = false ∧ d = .tup [.str "", .lst []])
  | [], lt, ns, b, _, _ => ens_fnil ⟨rfl, lt, ns, b, rfl, rfl, by simp, by simp [cum]⟩
  | y :: r, lt, ns, b, h1, h2 => by
    rw [List.map_cons, List.sum_cons] at h1
    rw [List.length_cons] at h2
    refine ens_fcons (ens_red rfl ?_)
    repeat walk_at "es1"
    refine r_are_small y ?_
    repeat walk_at "es1"
    refine ⟨fun h => ?_, fun h => ?_⟩
    · have h : smA (T y) = false := by simpa using h
      repeat walk_at "es1"
      refine ⟨(by decide : (0 : Nat) ≤ 1000), ?_⟩
      repeat walk_at "es1"
      exact ⟨(by decide : (2 : Nat) ≤ 1000), by rw [List.all_cons, h]; rfl, rfl⟩
    · have h : smA (T y) = true := by simpa using h
      repeat walk_at "es1"
      refine ens_ite (by unfold PySem.sizeLine; omega) (ens_ret ?_)
      repeat walk_at "es1"
      refine ⟨rfl, ?_⟩
      repeat walk_at "es1"
      have hl : (lt ++ y).length = lt.length + y.length := by rw [← T_len, T_app, List.length_append, T_len, T_len]
      refine ens_ite (by rw [hl]; unfold PySem.sizeLine; omega) (ens_ret ?_)
      repeat walk_at "es1"
      refine ens_app rfl (by rw [iDs_len]; unfold PySem.sizeLine; omega) ?_
      have ih := div_loop x r (lt ++ y) (ns ++ [((lt ++ y).length : Int)]) (some (.str y)) (by rw [hl]; omega) (by rw [List.length_append, List.length_singleton]; omega)
      have e2 : iDs ns ++ [D.int ((lt ++ y).length : Int)] = iDs (ns ++ [((lt ++ y).length : Int)]) := by rw [iDs_app]; rfl
      rw [← e2] at ih
      rw [List.all_cons, h, Bool.true_and]
      refine Ens.imp ih fun f st q => ?_
      cases f with
      | nx sl =>
        obtain ⟨q1, lt', ns', b', e1, e3, e4, e5⟩ := q
        exact ⟨q1, lt', ns', b', e1, e3, by rw [e4, T_app, List.map_cons, List.flatten_cons, List.append_assoc], by rw [e5, hl, List.map_cons, cum, T_len, List.append_assoc]; rfl⟩
      | rt d => exact q
      | bk _ => exact q
      | ct _ => exact q
theorem r_divided (x : Str) (hx : x.length ≤ 100000) {Q : D → Sto → Prop} (q : ∀ k ds, T k = wordK (T x) → (wordK (T x) ≠ [] → ds = iDs (cum 0 (spl 45 (T x))).dropLast) → Q (.tup [.str k, .lst ds]) st) : Ens (callB 1 m_divided_word [.str x] st) Q := by
  refine ens_B0 rfl rfl rfl ?_
  refine ens_def [some (.str x), none, none, none] rfl ?_
  unfold b_divided_word
  repeat walk_at "es1"
  refine ⟨(by decide : (0 : Nat) ≤ 1000), ?_⟩
  repeat walk_at "es1"
  refine ⟨rfl, ?_⟩
  repeat walk_at "es1"
  have hc : ((U [45]).length == 0) = false ∧ x.length + 2 ≤ sizeLine := ⟨rfl, by unfold PySem.sizeLine; omega⟩
  refine ens_ite hc ?_
  refine ens_red rfl ⟨_, .inl rfl, ?_⟩
  show EnsS (forL _ _ ((Txt.split x (U [45])).map .str) _ _) _ _
  have hn : (Txt.split x (U [45])).length ≤ x.length + 1 := by
    have e := congrArg List.length (T_split x 45)
    rw [List.length_map] at e
    rw [e, ← T_len]
    exact spl_count _ _
  have hs := split_size x 45
  have eT := T_split x 45
  revert hn hs eT
  generalize Txt.split x (U [45]) = ys
  intro hn hs eT
  have eall : ys.all (fun y => smA (T y)) = (spl 45 (T x)).all smA := by rw [← eT, List.all_map]; rfl
  refine Ens.imp (div_loop x ys "" [] none (by show 0 + _ ≤ _; omega) (by show 0 + _ ≤ _; omega)) fun f s h => ?_
  cases f with
  | bk _ => exact h
  | ct _ => exact h
  | rt d =>
    obtain ⟨h1, rfl⟩ := h
    rw [eall] at h1
    exact ⟨rfl, q "" [] (by unfold wordK; rw [h1, if_neg Bool.false_ne_true]; rfl) (fun z => absurd (by unfold wordK; rw [h1, if_neg Bool.false_ne_true]) z)⟩
  | nx sl =>
    obtain ⟨h1, lt, ns, b, rfl, rfl, e, en⟩ := h
    rw [eall] at h1
    rw [eT] at e en
    show EnsS _ _ _
    repeat walk_at "es1"
    refine ens_red rfl ?_
    repeat walk_at "es1"
    refine ens_gsl (ds := iDs ns) rfl ?_
    rw [cutD_init]
    have ez : (iDs ns).dropLast = iDs ns.dropLast := by unfold iDs; rw [List.map_dropLast]
    rw [ez]
    generalize hz : ns.dropLast = zs
    refine ens_red rfl ?_
    repeat walk_at "es1"
    refine ⟨(by decide : (2 : Nat) ≤ 1000), ?_, q lt (iDs zs) (by unfold wordK; rw [h1, if_pos rfl, e]; rfl) (fun _ => by rw [← hz, en]; rfl)⟩
    show (true && (pfs (iDs zs) && true)) = true
    rw [pfs_iDs]; rfl
end
section
open PySem PySem.Spec L2 M
variable {st : Sto}
def kP (x : Str) : Str := U (patK (T x))
def kW (x : Str) : Str := U (wordK (T x))
theorem pt_key {s p : Str} (hs : Sg s) (hp : Pt s p) : kP p = s := by
  obtain ⟨_, _, f3, f4, _⟩ := sg_facts hs
  obtain ⟨h1, h2, _⟩ := hp
  unfold kP patK
  rw [h2, if_neg Bool.false_ne_true, h1, if_pos (by rw [f3, decide_eq_true f4]; rfl), U_T]
theorem nums_len : ∀ (l : List Nat) (ns : List Int), (nums ns l).length = ns.length + (nd l).length
  | [], ns => rfl
  | c :: r, ns => by
    rw [nums, nd_cons]
    by_cases h : dgt c = true
    · rw [if_pos h, if_pos h, nums_len r, List.length_set]
    · rw [if_neg h, if_neg h, nums_len r, List.length_append, List.length_singleton, List.length_cons]; omega
theorem nums_rng : ∀ (l : List Nat) (ns : List Int), (∀ v ∈ ns, 0 ≤ v ∧ v ≤ 9) → ∀ v ∈ nums ns l, 0 ≤ v ∧ v ≤ 9
  | [], ns, h => h
  | c :: r, ns, h => by
    rw [nums]
    by_cases z : dgt c = true
    · rw [if_pos z]
      refine nums_rng r _ fun v m => ?_
      rcases List.mem_or_eq_of_mem_set m with m | m
      · exact h v m
      · subst m
        unfold dgt at z
        rw [Bool.and_eq_true, decide_eq_true_eq, decide_eq_true_eq] at z
        unfold dv; omega
    · rw [if_neg z]
      refine nums_rng r _ fun v m => ?_
      rcases List.mem_append.mp m with m | m
      · exact h v m
      · rw [List.mem_singleton] at m; subst m; omega
/-- a pattern as the law makes them -/
def Wp (p : Str) : Prop := patK (T p) = nd (T p) ∧ nd (T p) ≠ [] ∧ p.length ≤ 100
/-- an exception as the law makes them -/
def We (e : Str) : Prop := Mk (T e) ∧ (∀ c ∈ lts (T e), abc c) ∧ lts (T e) ≠ [] ∧ e.length ≤ 100 ∧ (lts (T e)).length ≤ 6 ∧ sm e
theorem pt_wp {s p : Str} (hs : Sg s) (hp : Pt s p) : Wp p ∧ (nd (T p)).length ≤ 6 := by
  have e := pt_key hs hp
  have e2 : patK (T p) = T s := by rw [← e]; exact (T_U _).symm
  have e3 := hp.1
  obtain ⟨_, h6, _, _, hn⟩ := sg_facts hs
  refine ⟨⟨by rw [e2, e3], by rw [e3]; exact hn, hp.2.2.1⟩, ?_⟩
  rw [e3, T_len]; exact h6
theorem we_key {e : Str} (h : We e) : wordK (T e) = lts (T e) := by
  rw [wordK_eq, mk_gE h.1, if_pos]
  rw [Bool.and_true, List.all_eq_true]
  exact fun c m => (abc_f (h.2.1 c m)).2.1
/-- a new cell handed back, the first argument's cell changed -/
theorem ens_B1c {Q : D → Sto → Prop} {n : Nat} {m : List D → Sto → MM D} {r : List D} {c : Cell} (hl : r.length + 1 = n) (pr : pfs r = true) (pc : pfC c = true) (h : Ens (m (.ptr 0 :: r) [some c]) fun d cs => ∃ c' rest j c2, cs = some c' :: rest ∧ pfC c' = true ∧ d = .ptr j ∧ 1 ≤ j ∧ cs[j]? = some (some c2) ∧ pfC c2 = true ∧ Q (.ptr (st.length + 1)) (some c' :: (st ++ [some c2]))) : Ens (callB n m (.ptr 0 :: r) (some c :: st)) Q := by
  obtain ⟨d, cs, e, c', rest, j, c2, rfl, p1, rfl, h1, e2, p2, q⟩ := h
  refine ⟨_, _, ?_, q⟩
  unfold callB
  rw [if_pos (show (D.ptr 0 :: r).length = n from hl)]
  show (if pfs r = true ∧ pfC c = true then back1 0 (some c :: st) (m (.ptr 0 :: r) [some c]) else none) = _
  rw [if_pos ⟨pr, pc⟩, e]
  show (if pfC c' = true then outB (.ptr j) (some c' :: rest) 1 (some c' :: st) else none) = _
  rw [if_pos p1]
  unfold outB
  rw [if_neg (by rw [pf]; exact Bool.false_ne_true)]
  show (if 1 ≤ j then _ else none) = _
  rw [if_pos h1]
  simp only [e2]
  rw [if_pos p2]; rfl
theorem s_lpats (n : Int) (hn : 0 < n) (hn2 : n ≤ 20) (xs : List Int) : Ens (m_law_patterns [.ptr 0, .int n] [some (.lst (iDs xs))]) fun d cs => ∃ (ps : List Str) (ys : List Int) (rest : Sto), d = .lst (ps.map .str) ∧ cs = some (.lst (iDs ys)) :: rest ∧ (ps.map kP).Nodup ∧ (ps.length : Int) < n ∧ ∀ p ∈ ps, Wp p ∧ (nd (T p)).length ≤ 6 := by
  refine ens_def [some (.ptr 0), some (.int n), none, none, none, none] rfl ?_
  unfold b_law_patterns
  repeat walk_at "es1"
  refine ⟨(by decide : (0 : Nat) ≤ 1000), ?_⟩
  repeat walk_at "es1"
  refine ⟨(by decide : (0 : Nat) ≤ 1000), ?_⟩
  repeat walk_at "es1"
  refine s_pickB hn xs fun v ys v0 v1 => ?_
  repeat walk_at "es1"
  refine ⟨by omega, ?_⟩
  refine ens_for0 (fun j sl st => ∃ (ps : List Str) (ys : List Int) (a b : Option D), sl = [some (.ptr 0), some (.int n), some (.ptr 1), some (.ptr 2), a, b] ∧ st = [some (.lst (iDs ys)), some (.lst ((ps.map kP).map .str)), some (.lst (ps.map .str))] ∧ ps.length ≤ j ∧ (ps.map kP).Nodup ∧ (∀ p ∈ ps, Wp p ∧ (nd (T p)).length ≤ 6)) ⟨[], ys, _, _, rfl, rfl, Nat.le_refl _, List.nodup_nil, fun _ m => (by cases m)⟩ (fun j d sl st hd hI => ?_) (fun sl st hI => ?_)
  · obtain ⟨ps, ys, a, b, rfl, rfl, hl, hnd, hp⟩ := hI
    obtain ⟨hj, rfl⟩ := rng_lt hd
    refine ens_red rfl ?_
    repeat walk_at "es1"
    refine s_signsB ys fun s zs hs => ?_
    repeat walk_at "es1"
    refine ens_inL (ks := ps.map kP) rfl ⟨_, rfl, fun h => ?_, fun h => ?_⟩
    · have h : s ∉ ps.map kP := of_decide_eq_false (by
        have h : (!decide (s ∈ ps.map kP)) = true := h
        rw [Bool.not_eq_true'] at h; exact h)
      repeat walk_at "es1"
      refine ⟨rfl, ?_⟩
      repeat walk_at "es1"
      refine ens_app rfl (by rw [List.length_map, List.length_map]; unfold PySem.sizeLine; omega) ?_
      repeat walk_at "es1"
      refine ⟨rfl, ?_⟩
      repeat walk_at "es1"
      refine s_lpatB s hs zs fun p ws hpt => ?_
      repeat walk_at "es1"
      refine ens_app rfl (by rw [List.length_map]; unfold PySem.sizeLine; omega) ?_
      have ek := pt_key hs hpt
      have hne : s ≠ "" := fun z => (sg_facts hs).2.2.2.2 (T_nil.mp z)
      refine ⟨ps ++ [p], ws, _, _, rfl, ?_, by rw [List.length_append, List.length_singleton]; omega, ?_, fun x m => ?_⟩
      · rw [List.map_append, List.map_append, List.map_append]
        show [_, some (Cell.lst ((ps.map kP).map D.str ++ [.str s])), some (Cell.lst (ps.map D.str ++ [.str p]))] = [_, some (Cell.lst ((ps.map kP).map D.str ++ [.str (kP p)])), _]
        rw [ek]; rfl
      · rw [List.map_append]
        refine List.nodup_append.mpr ⟨hnd, by simp, fun x hx y hy => ?_⟩
        have hy : y = kP p := by simpa using hy
        rw [hy, ek]
        exact fun z => h (by rw [← z]; exact hx)
      · rcases List.mem_append.mp m with m | m
        · exact hp x m
        · rw [List.mem_singleton] at m
          subst m
          exact pt_wp hs hpt
    · refine ens_next ⟨ps, zs, _, _, rfl, rfl, by omega, hnd, hp⟩
  · obtain ⟨ps, ys, a, b, rfl, rfl, hl, hnd, hp⟩ := hI
    have e1 : (rngD 0 v.toNat).length = v.toNat := by unfold rngD; rw [List.length_map, List.length_range]
    rw [e1] at hl
    repeat walk_at "es1"
    exact ⟨ps, ys, _, rfl, rfl, hnd, by omega, hp⟩
theorem word_key {m w : Str} (hm : Mk (T m)) (hl : lts (T m) = T w) (hw : ∀ c ∈ T w, abc c) : kW m = w := by
  unfold kW
  rw [wordK_eq, hl, mk_gE hm, if_pos, U_T]
  rw [Bool.and_true, List.all_eq_true]
  exact fun c h => (abc_f (hw c h)).2.1
theorem s_lexceptions (n : Int) (hn : 0 < n) (hn2 : n ≤ 20) (xs : List Int) : Ens (m_law_exceptions [.ptr 0, .int n] [some (.lst (iDs xs))]) fun d cs => ∃ (ps : List Str) (ys : List Int) (rest : Sto), d = .lst (ps.map .str) ∧ cs = some (.lst (iDs ys)) :: rest ∧ (ps.map kW).Nodup ∧ (ps.length : Int) < n ∧ ∀ p ∈ ps, We p := by
  refine ens_def [some (.ptr 0), some (.int n), none, none, none, none, none, none, none] rfl ?_
  unfold b_law_exceptions
  repeat walk_at "es1"
  refine ⟨(by decide : (0 : Nat) ≤ 1000), ?_⟩
  repeat walk_at "es1"
  refine ⟨(by decide : (0 : Nat) ≤ 1000), ?_⟩
  repeat walk_at "es1"
  refine s_pickB hn xs fun v ys v0 v1 => ?_
  repeat walk_at "es1"
  refine ⟨by omega, ?_⟩
  refine ens_for0 (fun j sl st => ∃ (ps : List Str) (ys : List Int) (a b c d e : Option D), sl = [some (.ptr 0), some (.int n), some (.ptr 1), some (.ptr 2), a, b, c, d, e] ∧ st = [some (.lst (iDs ys)), some (.lst ((ps.map kW).map .str)), some (.lst (ps.map .str))] ∧ ps.length ≤ j ∧ (ps.map kW).Nodup ∧ (∀ p ∈ ps, We p)) ⟨[], ys, _, _, _, _, _, rfl, rfl, Nat.le_refl _, List.nodup_nil, fun _ m => (by cases m)⟩ (fun j d sl st hd hI => ?_) (fun sl st hI => ?_)
  · obtain ⟨ps, ys, a, b, c, d, e, rfl, rfl, hl, hnd, hp⟩ := hI
    obtain ⟨hj, rfl⟩ := rng_lt hd
    refine ens_red rfl ?_
    repeat walk_at "es1"
    refine ⟨rfl, ?_⟩
    repeat walk_at "es1"
    refine s_pickB (by decide : (0 : Int) < 6) ys fun u ys2 u0 u1 => ?_
    refine ens_red rfl ?_
    repeat walk_at "es1"
    refine ⟨by omega, ?_⟩
    have hn : (rngD 0 ((1 : Int) + u).toNat).length = ((1 : Int) + u).toNat := by unfold rngD; rw [List.length_map, List.length_range]
    refine lc_pick (j := 6) (fun _ => rfl) _ [] ys2 (fun _ m => (by cases m)) (by rw [hn]; show 0 + _ ≤ _; omega) fun w ys3 hw hlw => ?_
    rw [hn] at hlw
    have hlw : w.length = ((1 : Int) + u).toNat := by rw [hlw]; show 0 + _ = _; omega
    repeat walk_at "es1"
    refine ens_joinC (by omega) ?_
    repeat walk_at "es1"
    refine ens_inL (ks := ps.map kW) rfl ⟨_, rfl, fun h => ?_, fun h => ?_⟩
    · have h0' : U w ∉ ps.map kW := of_decide_eq_false (by
        have h : (!decide (U w ∈ ps.map kW)) = true := h
        rw [Bool.not_eq_true'] at h; exact h)
      repeat walk_at "es1"
      refine ⟨rfl, ?_⟩
      repeat walk_at "es1"
      refine ens_app rfl (by rw [List.length_map, List.length_map]; unfold PySem.sizeLine; omega) ?_
      obtain ⟨c0, wr, rfl⟩ : ∃ c0 wr, w = c0 :: wr := by
        cases w with
        | nil => have : (0 : Nat) = ((1 : Int) + u).toNat := hlw; omega
        | cons c0 wr => exact ⟨c0, wr, rfl⟩
      have hc0 := abc_f (hw c0 List.mem_cons_self)
      rw [List.length_cons] at hlw
      have hUl : (U (c0 :: wr)).length ≤ 6 := by rw [← T_len, T_U, List.length_cons]; omega
      repeat walk_at "es1"
      refine ens_ixS (i := 0) (by omega) (by rw [T_U]; rfl) ?_
      repeat walk_at "es1"
      refine ens_glS (by omega) ?_
      refine ⟨_, .inr (.inr (.inl ⟨_, rfl, rfl⟩)), ?_⟩
      rw [chrD_T, cut_tail, T_U]
      show EnsS (forL _ _ (chs wr) _ _) _ _
      refine Ens.imp (mark_loop _ _ _ _ _ _ _ rfl _ wr (U [c0]) _ ys3 (fun x mm => hw x (List.mem_cons_of_mem _ mm)) (by rw [T_one]; exact ⟨by simp, by simpa using hc0.1, by simpa using hc0.1, rfl⟩) (fun x mm => by rw [T_one, List.mem_singleton] at mm; subst mm; exact hc0.2.2) (by rw [← T_len, T_one]; show 1 + _ ≤ _; omega) (R := fun d cs => ∃ (ps : List Str) (ys : List Int) (rest : Sto), d = .lst (ps.map .str) ∧ cs = some (.lst (iDs ys)) :: rest ∧ (ps.map kW).Nodup ∧ (ps.length : Int) < n ∧ ∀ p ∈ ps, We p)) fun f st h => ?_
      cases f with
      | bk _ => exact h
      | ct _ => exact h
      | rt d => exact h
      | nx sl =>
        obtain ⟨p, zs, a', rfl, rfl, f3, f4, f5, f6⟩ := h
        show EnsS _ _ _
        have g1 : (U [c0]).length = 1 := by rw [← T_len, T_one]; rfl
        have ek : kW p = U (c0 :: wr) := word_key f3 (by rw [f4, T_one, T_U]; unfold lts; rw [List.filter_cons_of_pos (by simp [hc0.1])]; rfl) (by rw [T_U]; exact hw)
        have hne : U (c0 :: wr) ≠ "" := fun z => by
          have := congrArg T z
          rw [T_U] at this
          cases this
        repeat walk_at "es1"
        refine ⟨rfl, ?_⟩
        repeat walk_at "es1"
        refine ens_app rfl (by rw [List.length_map]; unfold PySem.sizeLine; omega) ?_
        refine ⟨ps ++ [p], zs, _, _, _, _, _, rfl, ?_, by rw [List.length_append, List.length_singleton]; omega, ?_, fun x m => ?_⟩
        · rw [List.map_append, List.map_append, List.map_append]
          show [_, some (Cell.lst ((ps.map kW).map D.str ++ [.str (U (c0 :: wr))])), some (Cell.lst (ps.map D.str ++ [.str p]))] = [_, some (Cell.lst ((ps.map kW).map D.str ++ [.str (kW p)])), _]
          rw [ek]; rfl
        · rw [List.map_append]
          refine List.nodup_append.mpr ⟨hnd, by simp, fun x hx y hy => ?_⟩
          have hy : y = kW p := by simpa using hy
          rw [hy, ek]
          exact fun z => h0' (by rw [← z]; exact hx)
        · rcases List.mem_append.mp m with m | m
          · exact hp x m
          · rw [List.mem_singleton] at m
            subst m
            have el : lts (T x) = c0 :: wr := by rw [f4, T_one]; unfold lts; rw [List.filter_cons_of_pos (by simp [hc0.1])]; rfl
            exact ⟨f3, by rw [el]; exact hw, by rw [el]; exact List.cons_ne_nil _ _, by omega, by rw [el, List.length_cons]; omega, f5⟩
    · refine ens_next ⟨ps, ys3, _, _, _, _, _, rfl, rfl, by omega, hnd, hp⟩
  · obtain ⟨ps, ys, a, b, c, d, e, rfl, rfl, hl, hnd, hp⟩ := hI
    have e1 : (rngD 0 v.toNat).length = v.toNat := by unfold rngD; rw [List.length_map, List.length_range]
    rw [e1] at hl
    repeat walk_at "es1"
    exact ⟨ps, ys, _, rfl, rfl, hnd, by omega, hp⟩
theorem pfs_strs' (ks : List Str) : pfs (ks.map D.str) = true := pfs_strs ks
theorem s_lpatsB {n : Int} (hn : 0 < n) (hn2 : n ≤ 20) (xs : List Int) {Q : D → Sto → Prop} (h : ∀ (ps : List Str) ys, (ps.map kP).Nodup → (ps.length : Int) < n → (∀ p ∈ ps, Wp p ∧ (nd (T p)).length ≤ 6) → Q (.lst (ps.map .str)) (some (.lst (iDs ys)) :: st)) : Ens (callB 2 m_law_patterns [.ptr 0, .int n] (some (.lst (iDs xs)) :: st)) Q :=
  ens_B1 rfl rfl (pfs_iDs xs) ((s_lpats n hn hn2 xs).imp fun d cs ⟨ps, ys, rest, e1, e2, e3, e4, e5⟩ => ⟨.lst (iDs ys), rest, e2, pfs_iDs ys, by rw [e1]; exact pfs_strs ps, by rw [e1]; exact h ps ys e3 e4 e5⟩)
theorem s_lexcB {n : Int} (hn : 0 < n) (hn2 : n ≤ 20) (xs : List Int) {Q : D → Sto → Prop} (h : ∀ (es : List Str) ys, (es.map kW).Nodup → (es.length : Int) < n → (∀ e ∈ es, We e) → Q (.lst (es.map .str)) (some (.lst (iDs ys)) :: st)) : Ens (callB 2 m_law_exceptions [.ptr 0, .int n] (some (.lst (iDs xs)) :: st)) Q :=
  ens_B1 rfl rfl (pfs_iDs xs) ((s_lexceptions n hn hn2 xs).imp fun d cs ⟨es, ys, rest, e1, e2, e3, e4, e5⟩ => ⟨.lst (iDs ys), rest, e2, pfs_iDs ys, by rw [e1]; exact pfs_strs es, by rw [e1]; exact h es ys e3 e4 e5⟩)
end
section
open PySem PySem.Spec L2 M
variable {st : Sto}
def rI (lo : Int) (n : Nat) : List Int := (List.range n).map fun (i : Nat) => lo + (i : Int)
theorem rngD_I (lo : Int) (n : Nat) : rngD lo n = iDs (rI lo n) := by unfold rngD iDs rI; rw [List.map_map]; rfl
theorem rI_len (lo : Int) (n : Nat) : (rI lo n).length = n := by unfold rI; rw [List.length_map, List.length_range]
theorem rI_mem {lo v : Int} {n : Nat} (h : v ∈ rI lo n) : lo ≤ v ∧ v < lo + n := by
  unfold rI at h
  obtain ⟨i, hi, rfl⟩ := List.mem_map.mp h
  rw [List.mem_range] at hi
  omega
/-- a filtered list of ints -/
theorem lc_ints {tt : FT} {sl : Sl} {st : Sto} {j : Nat} {f : Int → Bool} (hj : j < sl.length) : ∀ (l : List Int) (es : List Int), (∀ v ∈ l, Ens (tt (sl.set j (some (.int v))) st) fun b s => b = f v ∧ s = st) → es.length + l.length ≤ 1000000 → ∀ {Q : List D → Sto → Prop}, Q (iDs (es ++ l.filter f)) st → Ens (lcL (gNm j) tt (mVar j) sl (iDs l) (iDs es) st) Q
  | [], es, _, _, Q, q => ens_ret (by simpa using q)
  | v :: r, es, ht, h, Q, q => by
    rw [List.length_cons] at h
    show Ens (bnd (tt (sl.set j (some (.int v))) st) fun b st => cond b (bnd (mVar j (sl.set j (some (.int v))) st) fun y st => if (iDs es).length < sizeLine then lcL (gNm j) tt (mVar j) sl (iDs r) (iDs es ++ [y]) st else none) (lcL (gNm j) tt (mVar j) sl (iDs r) (iDs es) st)) Q
    rw [to_eq (ht v List.mem_cons_self)]
    show Ens (cond (f v) _ _) Q
    have hv : gv (sl.set j (some (.int v))) j = some (.int v) := by
      unfold gv
      rw [List.getElem?_set_self hj]
    refine ens_cond (fun h1 => ?_) fun h1 => ?_
    · refine ens_bnd (ens_var hv (ens_ite (by rw [iDs_len]; unfold PySem.sizeLine; omega) ?_))
      have e : iDs es ++ [D.int v] = iDs (es ++ [v]) := by rw [iDs_app]; rfl
      rw [e]
      refine lc_ints hj r (es ++ [v]) (fun x m => ht x (List.mem_cons_of_mem _ m)) (by rw [List.length_append, List.length_singleton]; omega) ?_
      rw [List.filter_cons_of_pos h1] at q
      rw [List.append_assoc]
      exact q
    · refine lc_ints hj r es (fun x m => ht x (List.mem_cons_of_mem _ m)) (by omega) ?_
      rw [List.filter_cons_of_neg (by rw [h1]; exact Bool.false_ne_true)] at q
      exact q
/-- what is left of places -/
def keptK (ps : List Int) (n l r : Int) : List Int := ps.filter fun k => decide (l ≤ k) && decide (k ≤ n - r)
theorem r_kept (ps : List Int) (w : Str) (l r : Int) (h1 : ps.length ≤ 100000) (h2 : w.length ≤ 100000) {Q : D → Sto → Prop} (q : Q (.lst (iDs (keptK ps w.length l r))) st) : Ens (callB 4 m_kept [.lst (iDs ps), .str w, .int l, .int r] st) Q := by
  refine ens_B0 rfl rfl (by simp [pfs, pf, pfs_iDs]) ?_
  refine ens_def [some (.lst (iDs ps)), some (.str w), some (.int l), some (.int r), none] rfl ?_
  unfold b_kept
  repeat walk_at "es"
  refine ⟨_, .inl rfl, ?_⟩
  refine lc_ints (es := []) (f := fun k => decide (l ≤ k) && decide (k ≤ (w.length : Int) - r)) (show 4 < 5 by decide) ps (fun v m => ?_) (by show 0 + _ ≤ _; omega) ?_
  · repeat walk_at "es"
    refine ⟨fun h => ?_, fun h => ?_⟩
    · repeat walk_at "es"
      refine en_lenS ⟨by omega, ?_⟩
      repeat walk_at "es"
      refine ⟨by rw [h, Bool.true_and], rfl⟩
    · repeat walk_at "es"
      refine ⟨by rw [h, Bool.false_and], rfl⟩
  · refine ⟨?_, q⟩
    simp [pf, pfs_iDs]
/-! letters -/
def lt1 (c : Nat) : Bool := (decide (97 ≤ c) && decide (c ≤ 122)) || (decide (65 ≤ c) && decide (c ≤ 90))
theorem r_is_letter (c : Nat) {Q : D → Sto → Prop} (q : Q (.bl (lt1 c)) st) : Ens (callB 1 m_is_letter [.str (U [c])] st) Q := by
  refine ens_B0 rfl rfl rfl ?_
  refine ens_def [some (.str (U [c]))] rfl ?_
  unfold b_is_letter
  have up : Ens (mChain gLe gLe (mC (.str "A")) (mVar 0) (mC (.str "Z")) [some (.str (U [c]))] []) fun x s => x = .bl (decide (65 ≤ c) && decide (c ≤ 90)) ∧ s = [] := by
    repeat walk_at "es"
    refine ens_red (x := .bl (decide (65 ≤ c))) (by
      show M.ret (D.bl (!decide ((U [c]).cps.toList < (U [65]).cps.toList))) _ = _
      rw [le_one]) ⟨_, rfl, fun h => ?_, fun h => ?_⟩
    · repeat walk_at "es"
      refine ens_red (x := .bl (decide (c ≤ 90))) (by
        show M.ret (D.bl (!decide ((U [90]).cps.toList < (U [c]).cps.toList))) _ = _
        rw [le_one]) ⟨by rw [h]; rfl, rfl⟩
    · exact ⟨by rw [h]; rfl, rfl⟩
  have q1 : Ens (mChain gLe gLe (mC (.str "a")) (mVar 0) (mC (.str "z")) [some (.str (U [c]))] []) fun x s => x = .bl (decide (97 ≤ c) && decide (c ≤ 122)) ∧ s = [] := by
    repeat walk_at "es"
    refine ens_red (x := .bl (decide (97 ≤ c))) (by
      show M.ret (D.bl (!decide ((U [c]).cps.toList < (U [97]).cps.toList))) _ = _
      rw [le_one]) ⟨_, rfl, fun h => ?_, fun h => ?_⟩
    · repeat walk_at "es"
      refine ens_red (x := .bl (decide (c ≤ 122))) (by
        show M.ret (D.bl (!decide ((U [122]).cps.toList < (U [c]).cps.toList))) _ = _
        rw [le_one]) ⟨by rw [h]; rfl, rfl⟩
    · exact ⟨by rw [h]; rfl, rfl⟩
  refine ens_retS (en_orV (q1.imp fun x s ⟨e1, e2⟩ => ?_))
  subst e1 e2
  refine ⟨_, rfl, fun h => ⟨rfl, ?_⟩, fun h => up.imp fun x s ⟨e1, e2⟩ => ?_⟩
  · have e : lt1 c = true := by unfold lt1; rw [h]; rfl
    rw [← e]; exact q
  · subst e1 e2
    have e : lt1 c = (decide (65 ≤ c) && decide (c ≤ 90)) := by unfold lt1; rw [h]; rfl
    rw [← e]; exact ⟨rfl, q⟩
/-! the words in a text -/
def low (c : Nat) : Nat := if 65 ≤ c ∧ c ≤ 90 then c + 32 else c
def lrs (full : List Nat) : Nat → Nat → List Nat → List (Nat × List Nat)
  | _, _, [] => []
  | s, a, c :: r => if lt1 c = true then lrs full s (a + 1) r else (if s < a then [(s, ((full.drop s).take (a - s)).map low)] else []) ++ lrs full (a + 1) (a + 1) r
def lrD (l : List (Nat × List Nat)) : List D := l.map fun p => .tup [.int (p.1 : Int), .str (U p.2)]
theorem enumD_T (x : Str) : enumD (chrD x) = ((T x).zipIdx 0).map fun p => D.tup [.int (p.2 : Int), .str (U [p.1])] := by
  rw [chrD_T]
  unfold enumD
  rw [List.zipIdx_map, List.map_map]
  rfl
theorem T_low {x : Str} (h : ∀ c ∈ T x, c < 128) : T (Txt.lower x) = (T x).map low := by
  have h2 : ∀ c ∈ x.cps.toList, c < 128 := h
  rw [PyProof.Rows.lower_ascii h2]
  show (x.cps.map _).toList = x.cps.toList.map low
  rw [Array.toList_map]
  exact List.map_congr_left fun c _ => rfl
theorem cut_mid (z : Str) (a b : Nat) : T (cutS z (some (a : Int)) (some (b : Int))) = ((T z).drop a).take (b - a) := by
  rw [T_cut, HT.sIx_nat, HT.sIx_nat]
  by_cases ha : a ≤ (T z).length
  · rw [Nat.min_eq_left ha]
    by_cases hb : b ≤ (T z).length
    · rw [Nat.min_eq_left hb]
    · rw [Nat.min_eq_right (a := b) (by omega), List.take_of_length_le (by rw [List.length_drop]; omega), List.take_of_length_le (by rw [List.length_drop]; omega)]
  · rw [Nat.min_eq_right (a := a) (by omega), List.drop_of_length_le (i := a) (by omega), List.drop_of_length_le (Nat.le_refl _), List.take_nil, List.take_nil]
theorem runs_loop (x : Str) (hx : x.length ≤ 100000) (asc : ∀ c ∈ T x, c < 128) : ∀ (l : List Nat) (a s : Nat) (acc : List D) (p3 p4 : Option D), s ≤ a → acc.length ≤ a → a + l.length ≤ 100001 → ∀ {N : Sl → Sto → Prop} {R : D → Sto → Prop}, (∀ s' p3 p4, N [some (.str x), some (.ptr 0), some (.int s'), p3, p4] [some (.lst (acc ++ lrD (lrs (T x) s a l)))]) →
    EnsS (forL (gTp 2 (gsCons (gNm 3) (gsCons (gNm 4) gsNil))) (sIf (mNot (mTru (mCall (callB 1 m_is_letter) (mCons (mVar 4) mNil))))
    (sSeq (sIf (mB (mBin gLt (mVar 2) (mVar 3)))
    (sDrop (mBM "list" gAppend (mVar 1) (mCons (mTup (mCons (mVar 2) (mCons (mBM0 "str" gLower (mSl false (mVar 0) (mPart (mVar 2)) (mPart (mVar 3)))) mNil))) mNil)))
    sNext)
    (sAsg (mBin (gAdd false) (mVar 3) (mC (.int 1))) (gNm 2)))
    sNext) ((l.zipIdx a).map fun p => D.tup [.int (p.2 : Int), .str (U [p.1])]) [some (.str x), some (.ptr 0), some (.int (s : Int)), p3, p4] [some (.lst acc)]) N R
  | [], a, s, acc, p3, p4, h1, h3, h4, N, R, q => ens_fnil (by have := q (s : Int) p3 p4; rw [lrs] at this; simpa [lrD] using this)
  | c :: r, a, s, acc, p3, p4, h1, h3, h4, N, R, q => by
    rw [List.length_cons] at h4
    rw [List.zipIdx_cons, List.map_cons]
    refine ens_fcons ?_
    repeat walk_at "es"
    refine r_is_letter c ?_
    repeat walk_at "es"
    refine ⟨fun h => ?_, fun h => ?_⟩
    · have h : lt1 c = false := by simpa using h
      have el : lrs (T x) s a (c :: r) = (if s < a then [(s, ((((T x).drop s).take (a - s)).map low))] else []) ++ lrs (T x) (a + 1) (a + 1) r := by rw [lrs, if_neg (by rw [h]; exact Bool.false_ne_true)]
      repeat walk_at "es"
      refine ⟨fun hs => ?_, fun hs => ?_⟩
      · have hs : s < a := by have := of_decide_eq_true hs; omega
        repeat walk_at "es"
        refine ens_glS (by omega) ?_
        repeat walk_at "es"
        have ec : T (cutS x (some (s : Int)) (some (a : Int))) = ((T x).drop s).take (a - s) := cut_mid x s a
        have hcl : (cutS x (some (s : Int)) (some (a : Int))).length ≤ 100000 := by
          rw [← T_len, ec, List.length_take, List.length_drop, T_len]; omega
        refine ens_ite (by show (cutS x (some (s : Int)) (some (a : Int))).length ≤ 5592405; omega) (ens_ret ?_)
        repeat walk_at "es"
        refine ens_app rfl (by unfold PySem.sizeLine; omega) ?_
        repeat walk_at "es"
        have e2 : Txt.lower (cutS x (some (s : Int)) (some (a : Int))) = U ((((T x).drop s).take (a - s)).map low) := by
          rw [eq_U, T_low, ec]
          intro c m
          rw [ec] at m
          exact asc c (List.mem_of_mem_drop (List.mem_of_mem_take m))
        show EnsS (forL _ _ _ [some (.str x), some (.ptr 0), some (.int ((a : Int) + 1)), some (.int (a : Int)), some (.str (U [c]))] [some (.lst (acc ++ [.tup [.int (s : Int), .str (Txt.lower (cutS x (some (s : Int)) (some (a : Int))))]]))]) N R
        rw [e2]
        refine runs_loop x hx asc r (a + 1) (a + 1) _ _ _ (Nat.le_refl _) (by rw [List.length_append, List.length_singleton]; omega) (by omega) fun s' p3 p4 => ?_
        have := q s' p3 p4
        rw [el, if_pos hs] at this
        rw [List.append_assoc]
        exact this
      · have hs : ¬ s < a := by have := of_decide_eq_false hs; omega
        repeat walk_at "es"
        refine runs_loop x hx asc r (a + 1) (a + 1) _ _ _ (Nat.le_refl _) (by omega) (by omega) fun s' p3 p4 => ?_
        have := q s' p3 p4
        rw [el, if_neg hs] at this
        exact this
    · have h : lt1 c = true := by simpa using h
      have el : lrs (T x) s a (c :: r) = lrs (T x) s (a + 1) r := by rw [lrs, if_pos h]
      repeat walk_at "es"
      refine runs_loop x hx asc r (a + 1) s _ _ _ (by omega) (by omega) (by omega) fun s' p3 p4 => ?_
      have := q s' p3 p4
      rw [el] at this
      exact this
theorem r_runs (x : Str) (hx : x.length ≤ 1000) (asc : ∀ c ∈ T x, c < 128) {Q : D → Sto → Prop} (q : Q (.lst (lrD (lrs (T x) 0 0 (T x ++ [32])))) st) : Ens (callB 1 m_letter_runs [.str x] st) Q := by
  refine ens_B0 rfl rfl rfl ?_
  refine ens_def [some (.str x), none, none, none, none] rfl ?_
  unfold b_letter_runs
  repeat walk_at "es"
  refine ens_addS (by show x.length + 1 ≤ _; omega) ?_
  repeat walk_at "es"
  rw [enumD_T, T_app]
  show EnsS (forL _ _ ((((T x) ++ [32]).zipIdx 0).map fun (p : Nat × Nat) => D.tup [.int (p.2 : Int), .str (U [p.1])]) [some (.str x), some (.ptr 0), some (.int ((0 : Nat) : Int)), none, none] [some (.lst [])]) _ _
  refine runs_loop x (by omega) asc _ 0 0 [] _ _ (Nat.le_refl _) (Nat.le_refl _) (by rw [List.length_append, T_len, List.length_singleton]; omega) fun s' p3 p4 => ?_
  repeat walk_at "es"
  refine ⟨?_, q⟩
  show pfs _ = true
  rw [List.nil_append]
  generalize lrs (T x) 0 0 (T x ++ [32]) = l
  induction l with
  | nil => rfl
  | cons p r ih => unfold lrD at ih ⊢; rw [List.map_cons, pfs, ih]; rfl
end
section
open PySem PySem.Spec L2 M
variable {st : Sto}
/-! a row of numbers, made greater place by place -/
def updG (G : List Int) (x : Nat × Int) : List Int := G.set x.1 (if x.2 > G.getD x.1 0 then x.2 else G.getD x.1 0)
def appG (G : List Int) (L : List (Nat × Int)) : List Int := L.foldl updG G
def blkF (s : Nat) : Nat → List Int → List (Nat × Int)
  | _, [] => []
  | a, v :: r => (s + a, v) :: blkF s (a + 1) r
theorem updG_len (G : List Int) (x : Nat × Int) : (updG G x).length = G.length := by unfold updG; rw [List.length_set]
theorem appG_len : ∀ (L : List (Nat × Int)) (G : List Int), (appG G L).length = G.length
  | [], _ => rfl
  | x :: r, G => by
    show (appG (updG G x) r).length = _
    rw [appG_len r, updG_len]
theorem appG_app (G : List Int) (L L' : List (Nat × Int)) : appG G (L ++ L') = appG (appG G L) L' := by unfold appG; rw [List.foldl_append]
def tpC (base : Sto) (G : List Int) : Sto := base ++ [some (.lst (iDs G))]
theorem tpC_get (base : Sto) (G : List Int) : (tpC base G)[base.length]? = some (some (.lst (iDs G))) := by unfold tpC; rw [List.getElem?_append_right (Nat.le_refl _), Nat.sub_self]; rfl
theorem tpC_set (base : Sto) (G G' : List Int) : (tpC base G).set base.length (some (.lst (iDs G'))) = tpC base G' := by unfold tpC; rw [List.set_append_right _ _ (Nat.le_refl _), Nat.sub_self]; rfl
theorem tpC_old {base : Sto} {G : List Int} {i : Nat} {c : Option Cell} (h : base[i]? = some c) : (tpC base G)[i]? = some c := by
  have hi := (List.getElem?_eq_some_iff.mp h).1
  unfold tpC; rw [List.getElem?_append_left hi]; exact h
theorem cellL_is {st : Sto} {i : Nat} {ds : List D} (h : st[i]? = some (some (.lst ds))) : cellL st i = some ds := by unfold cellL; rw [h]
theorem cellK_is {st : Sto} {i : Nat} {ds : List (Key × D)} (h : st[i]? = some (some (.dct ds))) : cellK st i = some ds := by unfold cellK; rw [h]
theorem dkOf_is {st : Sto} {i : Nat} {ds : List (Key × D)} (h : st[i]? = some (some (.dct ds))) : dkOf st (.ptr i) = some ds := cellK_is h
theorem isDct_is {st : Sto} {i : Nat} {ds : List (Key × D)} (h : st[i]? = some (some (.dct ds))) : mDGet2.isDct st (.ptr i) = true := by
  unfold mDGet2.isDct
  rw [dkOf_is h]; rfl
theorem dGet_is {st : Sto} {i : Nat} {ds : List (Key × D)} (h : st[i]? = some (some (.dct ds))) (s : Str) : dGet st (.ptr i) (.str s) = some (lookD ds (.inr s)) := by
  show (match dkOf st (.ptr i), some (Sum.inr s : Key) with
    | some ds, some k => some (lookD ds k)
    | _, _ => none) = _
  rw [dkOf_is h]
theorem at_iDs {G : List Int} {n : Nat} (h : n < G.length) : atI (iDs G) (n : Int) = some (.int (G.getD n 0)) := by
  refine at_nat ?_
  rw [iDs_get, List.getD_eq_getElem?_getD, List.getElem?_eq_getElem h]; rfl
theorem ixN_nat {m n : Nat} (h : n < m) : ixN m (n : Int) = some n := by
  unfold ixN
  rw [if_pos (by omega), if_pos (by omega)]
  rfl
theorem ens_setN {k : Nat} {ds : List D} {n : Nat} {d : D} {Q : Unit → Sto → Prop} (e : st[k]? = some (some (.lst ds))) (h : n < ds.length) (q : Q () (st.set k (some (.lst (ds.set n d))))) : Ens (gSetL st (.ptr k) (.int (n : Int)) d) Q := by
  show Ens (match cellL st k with
    | some ds => match ixN ds.length (n : Int) with
      | some j => M.ret () (st.set k (some (.lst (ds.set j d))))
      | none => none
    | none => none) Q
  rw [cellL_is e]
  show Ens (match ixN ds.length (n : Int) with
      | some j => M.ret () (st.set k (some (.lst (ds.set j d))))
      | none => none) Q
  rw [ixN_nat h]
  exact ens_ret q
theorem enumD_I (ns : List Int) : enumD (iDs ns) = ((ns.zipIdx 0).map fun (p : Int × Nat) => D.tup [.int (p.2 : Int), .int p.1]) := by
  unfold enumD iDs
  rw [List.zipIdx_map, List.map_map]
  rfl
/-- one row of a pattern's numbers is laid over the places -/
theorem lay_loop (cs : Cs) (base : Sto) (a0 a1 a2 : Option D) (s : Nat) (a5 a6 : Option D) (a9 : Option D) : ∀ (ns : List Int) (a : Nat) (G : List Int) (p7 p8 : Option D), s + a + ns.length ≤ G.length → ∀ {N : Sl → Sto → Prop} {R : D → Sto → Prop}, (∀ p7 p8, N [a0, a1, a2, some (.ptr base.length), some (.int (s : Int)), a5, a6, p7, p8, a9] (tpC base (appG G (blkF s a ns)))) →
    EnsS (forL (gTp 2 (gsCons (gNm 7) (gsCons (gNm 8) gsNil))) (sAsg (mCB cMax2 (mCons (mBin gIx (mVar 3) (mBin (gAdd false) (mVar 4) (mVar 7))) (mCons (mVar 8) mNil))) (gSet (mVar 3) (mBin (gAdd false) (mVar 4) (mVar 7)) gSetL))
      ((ns.zipIdx a).map fun (p : Int × Nat) => D.tup [.int (p.2 : Int), .int p.1]) [a0, a1, a2, some (.ptr base.length), some (.int (s : Int)), a5, a6, p7, p8, a9] (tpC base G)) N R
  | [], a, G, p7, p8, h, N, R, q => ens_fnil (q p7 p8)
  | v :: r, a, G, p7, p8, h, N, R, q => by
    rw [List.length_cons] at h
    rw [List.zipIdx_cons, List.map_cons]
    refine ens_fcons ?_
    have e0 : (s : Int) + (a : Int) = ((s + a : Nat) : Int) := by omega
    repeat walk_at "es"
    refine ens_asgG ?_
    repeat walk_at "es"
    rw [show ((s : Int) + (((v, a) : Int × Nat).2 : Int)) = ((s + a : Nat) : Int) from e0]
    refine ens_ix (ds := iDs G) (cellL_is (tpC_get base G)) (at_iDs (by omega)) ?_
    repeat walk_at "es"
    refine ens_set ?_
    repeat walk_at "es"
    rw [show ((s : Int) + (((v, a) : Int × Nat).2 : Int)) = ((s + a : Nat) : Int) from e0]
    refine ens_setN (tpC_get base G) (by rw [iDs_len]; omega) ?_
    rw [set_iDs, tpC_set]
    refine lay_loop cs base a0 a1 a2 s a5 a6 a9 r (a + 1) _ _ _ (by rw [List.length_set]; omega) fun p7 p8 => ?_
    exact q p7 p8
def oddK (G : List Int) (n : Nat) : List Int := (rI 1 (n - 1)).filter fun v => decide (G.getD (v + 1).toNat 0 % 2 = 1)
def Lp (lk : List Nat → Option (List Int)) (L : Nat) (d : List Nat) : List (Nat × Int) :=
  (List.range d.length).flatMap fun s => (List.range (min (s + L) d.length - s)).flatMap fun e => blkF s 0 ((lk ((d.drop s).take (e + 1))).getD [])
theorem rep0 : ∀ n : Nat, (List.replicate n [D.int 0]).flatten = iDs (List.replicate n 0)
  | 0 => rfl
  | n + 1 => by
    rw [List.replicate_succ, List.flatten_cons, rep0 n, List.replicate_succ]; rfl
theorem range_flat {α : Type} (f : Nat → List α) (n : Nat) : (List.range (n + 1)).flatMap f = (List.range n).flatMap f ++ f n := by
  rw [List.range_succ, List.flatMap_append]
  simp
theorem rngD_len (lo : Int) (n : Nat) : (rngD lo n).length = n := by unfold rngD; rw [List.length_map, List.length_range]
theorem T_dot (w : Str) : T ((U [46] ++ w) ++ U [46]) = 46 :: T w ++ [46] := by rw [T_app, T_app, T_one]; rfl
theorem r_odd (cs : Cs) (base : Sto) {i p : Nat} {fs : List (Str × D)} {Gd : List (Key × D)} (w : Str) (lk : List Nat → Option (List Int)) (L : Nat) (h_ins : base[i]? = some (some (.ins (cs.C "Divider") fs))) (f1 : fs.lookup ("patterns" : Str) = some (.ptr p)) (f2 : fs.lookup ("longest" : Str) = some (.int (L : Int)))
    (hp : base[p]? = some (some (.dct Gd))) (hlk : ∀ t : Str, lookD Gd (.inr t) = (lk (T t)).map fun ns => D.lst (iDs ns)) (hk : ∀ s ns, lk s = some ns → ns.length = s.length + 1) (hw : w.length ≤ 1000) (hL : L ≤ 1000) {Q : D → Sto → Prop}
    (q : ∀ G', G' = appG (List.replicate (w.length + 3) 0) (Lp lk L (46 :: T w ++ [46])) → Q (.lst (iDs (oddK G' w.length))) (tpC base G')) : Ens (m_Divider_odd_places cs [.ptr i, .str w] base) Q := by
  refine ens_def [some (.ptr i), some (.str w), none, none, none, none, none, none, none, none] rfl ?_
  unfold b_Divider_odd_places
  repeat walk_at "es"
  refine ens_addS (by show 1 + w.length ≤ _; omega) ?_
  repeat walk_at "es"
  have l1 : (U [46] ++ w).length = w.length + 1 := by rw [← T_len, T_app, List.length_append, T_one, T_len, List.length_singleton]; omega
  refine ens_addS (by show (U [46] ++ w).length + 1 ≤ _; omega) ?_
  have eT : T ((Str.ofString "." ++ w) ++ Str.ofString ".") = 46 :: T w ++ [46] := T_dot w
  have l2 : ((Str.ofString "." ++ w) ++ Str.ofString ".").length = w.length + 2 := by rw [← T_len, eT]; simp [T_len]
  revert eT l2
  generalize ((Str.ofString "." ++ w) ++ Str.ofString ".") = dot
  intro eT l2
  generalize hd : (46 :: T w ++ [46] : List Nat) = d at eT q
  have ld : d.length = w.length + 2 := by rw [← eT, T_len, l2]
  repeat walk_at "es"
  refine en_lenS ⟨by omega, ?_⟩
  repeat walk_at "es"
  refine ens_rep (ds := [D.int 0]) rfl ⟨by omega, by omega, by decide⟩ ?_
  rw [rep0]
  have e3 : ((dot.length : Int) + 1).toNat = w.length + 3 := by omega
  rw [e3]
  refine ens_ret ?_
  generalize hG0 : List.replicate (w.length + 3) (0 : Int) = G0 at q
  have lG0 : G0.length = w.length + 3 := by rw [← hG0, List.length_replicate]
  repeat walk_at "es"
  refine en_lenS ⟨by omega, ?_⟩
  repeat walk_at "es"
  refine ⟨by omega, ?_⟩
  refine ens_for0 (fun j sl st => ∃ a4 a5 a6 a7 a8, sl = [some (.ptr i), some (.str w), some (.str dot), some (.ptr base.length), a4, a5, a6, a7, a8, none] ∧ st = tpC base (appG G0 ((List.range j).flatMap fun s => (List.range (min (s + L) d.length - s)).flatMap fun e => blkF s 0 ((lk ((d.drop s).take (e + 1))).getD [])))) ⟨_, _, _, _, _, rfl, rfl⟩ (fun j x sl st hx hI => ?_) (fun sl st hI => ?_)
  · obtain ⟨a4, a5, a6, a7, a8, rfl, rfl⟩ := hI
    obtain ⟨hj, rfl⟩ := rng_lt hx
    have hj : j < d.length := by omega
    rw [show (0 : Int) + (j : Int) = (j : Int) by omega]
    rw [range_flat]
    generalize hP : ((List.range j).flatMap fun s => (List.range (min (s + L) d.length - s)).flatMap fun e => blkF s 0 ((lk ((d.drop s).take (e + 1))).getD [])) = P
    repeat walk_at "es"
    refine ens_FLD ?_
    repeat walk_at "es"
    refine ⟨i, fs, .int (L : Int), rfl, tpC_old h_ins, f2, ?_⟩
    repeat walk_at "es"
    refine en_lenS ⟨by omega, ?_⟩
    repeat walk_at "es"
    have em : (if (dot.length : Int) < (j : Int) + (L : Int) then (dot.length : Int) else (j : Int) + (L : Int)) = ((min (j + L) d.length : Nat) : Int) := by split <;> omega
    rw [em]
    refine ⟨_, _, rfl, ⟨by omega, by omega, by omega, by omega⟩, ?_⟩
    have en : (((min (j + L) d.length : Nat) : Int) + 1 - ((j : Int) + 1)).toNat = min (j + L) d.length - j := by omega
    rw [en]
    refine ens_for0 (fun e sl st => ∃ a5 a6 a7 a8, sl = [some (.ptr i), some (.str w), some (.str dot), some (.ptr base.length), some (.int (j : Int)), a5, a6, a7, a8, none] ∧ st = tpC base (appG G0 (P ++ (List.range e).flatMap fun e => blkF j 0 ((lk ((d.drop j).take (e + 1))).getD [])))) ⟨_, _, _, _, rfl, by simp⟩ (fun e x sl st hx hI => ?_) (fun sl st hI => ?_)
    · obtain ⟨a5, a6, a7, a8, rfl, rfl⟩ := hI
      obtain ⟨he, rfl⟩ := rng_lt hx
      rw [show (j : Int) + 1 + (e : Int) = ((j + 1 + e : Nat) : Int) by omega]
      rw [range_flat, ← List.append_assoc]
      generalize hP2 : (P ++ (List.range e).flatMap fun e => blkF j 0 ((lk ((d.drop j).take (e + 1))).getD [])) = P2
      repeat walk_at "es"
      refine ens_FLD ?_
      repeat walk_at "es"
      refine ⟨i, fs, .ptr p, rfl, tpC_old h_ins, f1, ?_⟩
      have ep : (tpC base (appG G0 P2))[p]? = some (some (.dct Gd)) := tpC_old hp
      refine ⟨isDct_is ep, ?_⟩
      repeat walk_at "es"
      refine ens_glS (by omega) ?_
      repeat walk_at "es"
      have ec : T (cutS dot (some (j : Int)) (some ((j + 1 + e : Nat) : Int))) = (d.drop j).take (e + 1) := by
        rw [cut_mid, eT]
        congr 1; omega
      refine ⟨_, dGet_is ep _, ?_⟩
      rw [hlk, ec]
      have lG : (appG G0 P2).length = w.length + 3 := by rw [appG_len, lG0]
      cases hl : lk ((d.drop j).take (e + 1)) with
      | none =>
        repeat walk_at "es"
        refine ens_IE2 ?_
        repeat walk_at "es"
        refine .inl ⟨rfl, ?_⟩
        refine ens_fnil ⟨_, _, _, _, rfl, ?_⟩
        rw [show ((none : Option (List Int)).getD []) = [] from rfl]
        show _ = tpC base (appG G0 (P2 ++ []))
        rw [List.append_nil]
      | some ns =>
        have ln := hk _ _ hl
        rw [List.length_take, List.length_drop] at ln
        repeat walk_at "es"
        refine ens_IE2 ?_
        repeat walk_at "es"
        refine .inr ⟨iDs ns, rfl, ?_⟩
        rw [enumD_I]
        refine lay_loop cs base _ _ _ j _ _ _ ns 0 (appG G0 P2) _ _ (by omega) fun p7 p8 => ?_
        refine ⟨_, _, _, _, rfl, ?_⟩
        rw [appG_app]; rfl
    · obtain ⟨a5, a6, a7, a8, rfl, rfl⟩ := hI
      rw [rngD_len]
      exact ⟨_, _, _, _, _, rfl, rfl⟩
  · obtain ⟨a4, a5, a6, a7, a8, rfl, rfl⟩ := hI
    have edl : (dot.length : Int).toNat = d.length := by omega
    rw [rngD_len, edl]
    have q2 := q _ rfl
    have hGl : (appG G0 (Lp lk L d)).length = w.length + 3 := by rw [appG_len, lG0]
    have eLp : ((List.range d.length).flatMap fun s => (List.range (min (s + L) d.length - s)).flatMap fun e => blkF s 0 ((lk ((d.drop s).take (e + 1))).getD [])) = Lp lk L d := rfl
    rw [eLp]
    generalize appG G0 (Lp lk L d) = GG at q2 hGl
    repeat walk_at "es"
    refine en_lenS ⟨by omega, ?_⟩
    repeat walk_at "es"
    refine ⟨_, _, rfl, ⟨by omega, by omega, by omega, by omega⟩, ?_⟩
    have e9 : ((w.length : Int) - 1).toNat = w.length - 1 := by omega
    rw [e9, rngD_I]
    refine lc_ints (es := []) (f := fun v => decide (GG.getD (v + 1).toNat 0 % 2 = 1)) (show 9 < 10 by decide) (rI 1 (w.length - 1)) (fun v m => ?_) (by rw [rI_len]; show 0 + _ ≤ _; omega) ?_
    · obtain ⟨v0, v1⟩ := rI_mem m
      obtain ⟨n, rfl⟩ := Int.eq_ofNat_of_zero_le (by omega : 0 ≤ v)
      repeat walk_at "es"
      rw [show ((n : Int) + 1) = ((n + 1 : Nat) : Int) by omega]
      refine ens_ix (ds := iDs GG) (cellL_is (tpC_get base GG)) (at_iDs (by omega)) ?_
      repeat walk_at "es"
      refine ens_I (by decide) ?_
      repeat walk_at "es"
      exact ⟨rfl, rfl⟩
    · exact q2
end
section
open PySem PySem.Spec L2 M
variable {st : Sto}
theorem cum_len : ∀ (l : List (List Nat)) (a : Nat), (cum a l).length = l.length
  | [], _ => rfl
  | p :: r, a => by rw [cum, List.length_cons, cum_len r, List.length_cons]
theorem take_succ' {α : Type} {l : List α} {n : Nat} (h : n < l.length) : l.take (n + 1) = l.take n ++ [l[n]] := by
  rw [List.take_succ, List.getElem?_eq_getElem h]; rfl
end
section
open PySem PySem.Spec L2 M
variable {st : Sto}
theorem ap_get (st0 l : Sto) (k : Nat) : (st0 ++ l)[st0.length + k]? = l[k]? := by rw [List.getElem?_append_right (by omega), Nat.add_sub_cancel_left]
theorem ap_get0 (st0 l : Sto) : (st0 ++ l)[st0.length]? = l[0]? := ap_get st0 l 0
theorem ap_set (st0 l : Sto) (k : Nat) (x : Option Cell) : (st0 ++ l).set (st0.length + k) x = st0 ++ l.set k x := by rw [List.set_append_right _ _ (by omega), Nat.add_sub_cancel_left]
theorem ap_set0 (st0 l : Sto) (x : Option Cell) : (st0 ++ l).set st0.length x = st0 ++ l.set 0 x := ap_set st0 l 0 x
theorem ap_len (st0 l : Sto) : (st0 ++ l).length = st0.length + l.length := List.length_append ..
def hyD (ps es : List Str) (l r : Int) : D := .tup [.str "hyphens", .lst (ps.map .str), .lst (es.map .str), .int l, .int r]
theorem hy_pf (ps es : List Str) (l r : Int) : pf (hyD ps es l r) = true := by simp [hyD, pf, pfs, pfs_strs]
def fsD (l r : Int) (n L : Nat) : List (Str × D) := [("left", .int l), ("right", .int r), ("patterns", .ptr (n + 1)), ("longest", .int (L : Int)), ("exceptions", .ptr (n + 2))]
def lkP (ps : List Str) (s : List Nat) : Option (List Int) := (ps.find? fun p => decide (nd (T p) = s)).map fun p => nums [0] (T p)
def lkE (es : List Str) (s : List Nat) : Option (List Int) := (es.find? fun e => decide (lts (T e) = s)).map fun e => (cum 0 (spl 45 (T e))).dropLast
def Lm (ps : List Str) : Nat := ps.foldl (fun m p => max m (nd (T p)).length) 0
def Look (G : List (Key × D)) (lk : List Nat → Option (List Int)) : Prop := ∀ t : Str, lookD G (.inr t) = (lk (T t)).map fun ns => D.lst (iDs ns)
theorem look_step {α : Type} {G : List (Key × D)} {as : List α} {a : α} {f : α → List Nat} {g : α → List Int} {k : Str} (hk : T k = f a) (hn : ∀ b ∈ as, f b ≠ f a) (h : Look G fun s => (as.find? fun p => decide (f p = s)).map g) : Look (putD G (.inr k) (.lst (iDs (g a)))) fun s => ((as ++ [a]).find? fun p => decide (f p = s)).map g := fun t => by
  rw [look_put]
  have ht := h t
  simp only [] at ht
  show _ = Option.map _ (Option.map g (List.find? _ (as ++ [a])))
  rw [List.find?_append]
  by_cases z : t = k
  · subst z
    rw [if_pos rfl]
    have : as.find? (fun p => decide (f p = T t)) = none := by
      rw [List.find?_eq_none]
      intro b mb e
      exact hn b mb ((of_decide_eq_true e).trans hk)
    rw [this]
    simp [hk]
  · have n : ¬ (Sum.inr t : Key) = Sum.inr k := fun e => z (by cases e; rfl)
    rw [if_neg n, ht]
    have : ¬ f a = T t := fun e => z (T_inj (by rw [← e, hk]))
    cases as.find? (fun p => decide (f p = T t)) with
    | none => simp [this]
    | some b => rfl
theorem nodup_take {α β : Type} {f : α → β} {l : List α} {j : Nat} (h : (l.map f).Nodup) (hj : j < l.length) : ∀ b ∈ l.take j, f b ≠ f l[j] := fun b mb e => by
  have h2 : ((l.take (j + 1)).map f).Nodup := h.sublist ((List.take_sublist _ _).map f)
  rw [take_succ' hj, List.map_append] at h2
  exact (List.nodup_append.mp h2).2.2 (f b) (List.mem_map.mpr ⟨b, mb, rfl⟩) (f l[j]) (by simp) e
theorem kp_eq {b p : Str} (hb : Wp b) (hp : Wp p) (h : nd (T b) = nd (T p)) : kP b = kP p := by unfold kP; rw [hb.1, hp.1, h]
theorem kw_eq {b p : Str} (hb : We b) (hp : We p) (h : lts (T b) = lts (T p)) : kW b = kW p := by unfold kW; rw [we_key hb, we_key hp, h]
theorem Lm_snoc (qs : List Str) (p : Str) : Lm (qs ++ [p]) = max (Lm qs) (nd (T p)).length := by unfold Lm; rw [List.foldl_append]; rfl
theorem r_init (cs : Cs) (st0 : Sto) (ps es : List Str) (l r : Int) (hp : ∀ p ∈ ps, Wp p) (he : ∀ e ∈ es, We e) (np : (ps.map kP).Nodup) (ne : (es.map kW).Nodup) (lp : ps.length ≤ 1000) (le : es.length ≤ 1000) {Q : D → Sto → Prop}
    (q : ∀ Gd Ge, Look Gd (lkP ps) → Look Ge (lkE es) → Q .non (st0 ++ [some (.ins (cs.C "Divider") (fsD l r st0.length (Lm ps))), some (.dct Gd), some (.dct Ge)])) :
    Ens (m_Divider_init cs [.ptr st0.length, hyD ps es l r] (st0 ++ [some (.ins (cs.C "Divider") [])])) Q := by
  refine ens_def [some (.ptr st0.length), some (hyD ps es l r), none, none, none, none, none, none, none, none, none] rfl ?_
  unfold b_Divider_init hyD
  generalize cs.C "Divider" = C at q ⊢
  refine ens_seq (ens_asgG ?_)
  refine ens_red (x := .tup [.lst (ps.map .str), .lst (es.map .str), .int l, .int r]) rfl ?_
  repeat walk_at "es"
  refine ens_SFLD ?_
  repeat walk_at "es"
  refine ⟨st0.length, [], rfl, ap_get0 _ _, (show 0 < 1000 by decide), ?_⟩
  rw [ap_set0]
  repeat walk_at "es"
  refine ens_SFLD ?_
  repeat walk_at "es"
  refine ⟨st0.length, [("left", .int l)], rfl, ap_get0 _ _, (show 1 < 1000 by decide), ?_⟩
  rw [ap_set0]
  repeat walk_at "es"
  refine ens_SFLD ?_
  repeat walk_at "es"
  rw [List.append_assoc, ap_len]
  refine ⟨st0.length, [("left", .int l), ("right", .int r)], rfl, ap_get0 _ _, (show 2 < 1000 by decide), ?_⟩
  rw [ap_set0]
  repeat walk_at "es"
  refine ens_SFLD ?_
  repeat walk_at "es"
  refine ⟨st0.length, [("left", .int l), ("right", .int r), ("patterns", .ptr (st0.length + 1))], rfl, ap_get0 _ _, (show 3 < 1000 by decide), ?_⟩
  rw [ap_set0]
  repeat walk_at "es"
  refine ⟨_, .inl rfl, ?_⟩
  refine ens_for0 (fun j sl st => ∃ (Gd : List (Key × D)) (a6 a7 a8 : Option D), sl = [some (.ptr st0.length), some (hyD ps es l r), some (.lst (ps.map .str)), some (.lst (es.map .str)), some (.int l), some (.int r), a6, a7, a8, none, none] ∧ st = st0 ++ [some (.ins C [("left", .int l), ("right", .int r), ("patterns", .ptr (st0.length + 1)), ("longest", .int (Lm (ps.take j) : Int))]), some (.dct Gd)] ∧ Look Gd (lkP (ps.take j)) ∧ Gd.length ≤ j) ⟨[], none, none, none, rfl, rfl, fun t => rfl, Nat.le_refl _⟩ (fun j x sl st hx hI => ?_) (fun sl st hI => ?_)
  · obtain ⟨Gd, a6, a7, a8, rfl, rfl, hG, hl⟩ := hI
    have hj := idx_lt hx
    rw [List.length_map] at hj
    rw [List.getElem?_map, List.getElem?_eq_getElem hj] at hx
    cases hx
    have hpj := hp ps[j] (List.getElem_mem hj)
    have fresh : ∀ b ∈ ps.take j, nd (T b) ≠ nd (T ps[j]) := fun b mb e => nodup_take np hj b mb (kp_eq (hp b (List.mem_of_mem_take mb)) hpj e)
    rw [take_succ' hj]
    generalize hps : ps.take j = qs at fresh hG ⊢
    generalize ps[j] = p at fresh hpj ⊢
    obtain ⟨w1, w2, w3⟩ := hpj
    refine ens_red rfl ?_
    refine ens_seq (ens_asgG ?_)
    repeat walk_at "es"
    refine r_pattern p (by omega) fun k ds ek ed => ?_
    have ed := ed (by rw [w1]; exact w2)
    subst ed
    repeat walk_at "es"
    refine ens_FLD ?_
    repeat walk_at "es"
    refine ⟨st0.length, _, .ptr (st0.length + 1), rfl, ap_get0 _ _, rfl, ?_⟩
    repeat walk_at "es"
    refine ⟨_, dput_str (G := Gd) (cellK_is (ap_get _ _ 1)) (by unfold PySem.sizeLine; omega), ?_⟩
    rw [ap_set]
    repeat walk_at "es"
    refine ens_SFLD ?_
    repeat walk_at "es"
    refine ens_FLD ?_
    repeat walk_at "es"
    refine ⟨st0.length, _, .int (Lm qs : Int), rfl, ap_get0 _ _, rfl, ?_⟩
    have lk : k.length = (nd (T p)).length := by rw [← T_len, ek, w1]
    have lk2 : (nd (T p)).length ≤ 100 := by
      refine Nat.le_trans (List.length_filter_le _ _) ?_
      rw [T_len]; exact w3
    repeat walk_at "es"
    refine en_lenS ⟨by omega, ?_⟩
    repeat walk_at "es"
    have em : (if (k.length : Int) > (Lm qs : Int) then (k.length : Int) else (Lm qs : Int)) = (Lm (qs ++ [p]) : Int) := by
      rw [Lm_snoc]
      split <;> omega
    rw [em]
    refine ⟨st0.length, [("left", .int l), ("right", .int r), ("patterns", .ptr (st0.length + 1)), ("longest", .int (Lm qs : Int))], rfl, ap_get0 _ _, (show 4 < 1000 by decide), ?_⟩
    rw [ap_set0]
    exact ⟨_, _, _, _, rfl, rfl, look_step (f := fun p => nd (T p)) (g := fun p => nums [0] (T p)) (by rw [ek, w1]) fresh hG, Nat.le_trans put_len (by omega)⟩
  · obtain ⟨Gd, a6, a7, a8, rfl, rfl, hG, hl⟩ := hI
    rw [List.length_map, List.take_length] at hG ⊢
    rw [List.length_map] at hl
    repeat walk_at "es"
    refine ens_SFLD ?_
    repeat walk_at "es"
    rw [List.append_assoc, ap_len]
    refine ⟨st0.length, [("left", .int l), ("right", .int r), ("patterns", .ptr (st0.length + 1)), ("longest", .int (Lm ps : Int))], rfl, ap_get0 _ _, (show 4 < 1000 by decide), ?_⟩
    rw [ap_set0]
    repeat walk_at "es"
    refine ⟨_, .inl rfl, ?_⟩
    refine ens_for0 (fun j sl st => ∃ (Ge : List (Key × D)) (a6 a9 a10 : Option D), sl = [some (.ptr st0.length), some (hyD ps es l r), some (.lst (ps.map .str)), some (.lst (es.map .str)), some (.int l), some (.int r), a6, a7, a8, a9, a10] ∧ st = st0 ++ [some (.ins C (fsD l r st0.length (Lm ps))), some (.dct Gd), some (.dct Ge)] ∧ Look Ge (lkE (es.take j)) ∧ Ge.length ≤ j) ⟨[], _, none, none, rfl, rfl, fun t => rfl, Nat.le_refl _⟩ (fun j x sl st hx hI => ?_) (fun sl st hI => ?_)
    · obtain ⟨Ge, a6, a9, a10, rfl, rfl, hE, hl2⟩ := hI
      have hj := idx_lt hx
      rw [List.length_map] at hj
      rw [List.getElem?_map, List.getElem?_eq_getElem hj] at hx
      cases hx
      have hej := he es[j] (List.getElem_mem hj)
      have fresh : ∀ b ∈ es.take j, lts (T b) ≠ lts (T es[j]) := fun b mb e => nodup_take ne hj b mb (kw_eq (he b (List.mem_of_mem_take mb)) hej e)
      rw [take_succ' hj]
      generalize hps : es.take j = qs at fresh hE ⊢
      generalize es[j] = p at fresh hej ⊢
      have w1 := we_key hej
      obtain ⟨_, _, w2, w3, _⟩ := hej
      refine ens_red rfl ?_
      refine ens_seq (ens_asgG ?_)
      repeat walk_at "es"
      refine r_divided p (by omega) fun k ds ek ed => ?_
      have ed := ed (by rw [w1]; exact w2)
      subst ed
      repeat walk_at "es"
      refine ens_FLD ?_
      repeat walk_at "es"
      refine ⟨st0.length, _, .ptr (st0.length + 2), rfl, ap_get0 _ _, rfl, ?_⟩
      repeat walk_at "es"
      refine ⟨_, dput_str (G := Ge) (cellK_is (ap_get _ _ 2)) (by unfold PySem.sizeLine; omega), ?_⟩
      rw [ap_set]
      exact ⟨_, _, _, _, rfl, rfl, look_step (f := fun p => lts (T p)) (g := fun e => (cum 0 (spl 45 (T e))).dropLast) (by rw [ek, w1]) fresh hE, Nat.le_trans put_len (by omega)⟩
    · obtain ⟨Ge, a6, a9, a10, rfl, rfl, hE, hl2⟩ := hI
      rw [List.length_map, List.take_length] at hE
      exact q Gd Ge hG hE
end
section
open PySem PySem.Spec L2 M
variable {st : Sto}
def plK (ps es : List Str) (w : List Nat) : List Int := match lkE es w with
  | some ns => ns
  | none => oddK (appG (List.replicate (w.length + 3) 0) (Lp (lkP ps) (Lm ps) (46 :: w ++ [46]))) w.length
def ptK1 (ps es : List Str) (l r : Int) (q : Nat × List Nat) : List Int := (keptK (plK ps es q.2) q.2.length l r).map fun v => (q.1 : Int) + v
def ptsK (ps es : List Str) (l r : Int) (x : List Nat) : List Int := (lrs x 0 0 (x ++ [32])).flatMap (ptK1 ps es l r)
theorem lrs_len (full : List Nat) : ∀ (l : List Nat) (s a : Nat), ∀ q ∈ lrs full s a l, q.2.length ≤ full.length
  | [], _, _, q, m => by cases m
  | c :: r, s, a, q, m => by
    rw [lrs] at m
    by_cases h : lt1 c = true
    · rw [if_pos h] at m; exact lrs_len full r _ _ q m
    · rw [if_neg h] at m
      rcases List.mem_append.mp m with m | m
      · by_cases z : s < a
        · rw [if_pos z, List.mem_singleton] at m
          subst m
          show (List.map low ((full.drop s).take (a - s))).length ≤ _
          rw [List.length_map, List.length_take, List.length_drop]; omega
        · rw [if_neg z] at m; cases m
      · exact lrs_len full r _ _ q m
theorem lrs_cnt (full : List Nat) : ∀ (l : List Nat) (s a : Nat), (lrs full s a l).length ≤ l.length
  | [], _, _ => Nat.le_refl _
  | c :: r, s, a => by
    rw [lrs, List.length_cons]
    by_cases h : lt1 c = true
    · rw [if_pos h]; have := lrs_cnt full r s (a + 1); omega
    · rw [if_neg h, List.length_append]
      have := lrs_cnt full r (a + 1) (a + 1)
      by_cases z : s < a
      · rw [if_pos z, List.length_singleton]; omega
      · rw [if_neg z]; show 0 + _ ≤ _; omega
theorem lkP_len (ps : List Str) (s : List Nat) (ns : List Int) (h : lkP ps s = some ns) : ns.length = s.length + 1 := by
  unfold lkP at h
  cases e : ps.find? (fun p => decide (nd (T p) = s)) with
  | none => rw [e] at h; cases h
  | some p =>
    rw [e] at h
    cases h
    have e2 := List.find?_some e
    have := of_decide_eq_true e2
    rw [nums_len, this, List.length_singleton]; omega
theorem Lm_le (ps : List Str) (n : Nat) (h : ∀ p ∈ ps, (nd (T p)).length ≤ n) : Lm ps ≤ n := by
  unfold Lm
  suffices g : ∀ (qs : List Str) (m : Nat), m ≤ n → (∀ p ∈ qs, (nd (T p)).length ≤ n) → qs.foldl (fun m p => max m (nd (T p)).length) m ≤ n from g ps 0 (Nat.zero_le _) h
  intro qs
  induction qs with
  | nil => exact fun m h _ => h
  | cons p r ih => exact fun m hm h => ih _ (Nat.max_le.mpr ⟨hm, h p List.mem_cons_self⟩) fun x mx => h x (List.mem_cons_of_mem _ mx)
theorem plK_len (ps es : List Str) (he : ∀ e ∈ es, e.length ≤ 100) (w : List Nat) (hw : w.length ≤ 1000) : (plK ps es w).length ≤ 1000 := by
  unfold plK
  cases h : lkE es w with
  | none =>
    show (oddK _ _).length ≤ _
    unfold oddK
    refine Nat.le_trans (List.length_filter_le _ _) ?_
    rw [rI_len]; omega
  | some ns =>
    show ns.length ≤ _
    unfold lkE at h
    cases e : es.find? (fun e => decide (lts (T e) = w)) with
    | none => rw [e] at h; cases h
    | some x =>
      rw [e] at h
      cases h
      have := he x (List.mem_of_find?_eq_some e)
      have s := spl_count 45 (T x)
      rw [T_len] at s
      rw [List.length_dropLast, cum_len]; omega
theorem fs_l (l r : Int) (n L : Nat) : (fsD l r n L).lookup ("left" : Str) = some (.int l) := rfl
theorem fs_r (l r : Int) (n L : Nat) : (fsD l r n L).lookup ("right" : Str) = some (.int r) := by rfl
theorem fs_p (l r : Int) (n L : Nat) : (fsD l r n L).lookup ("patterns" : Str) = some (.ptr (n + 1)) := by rfl
theorem fs_o (l r : Int) (n L : Nat) : (fsD l r n L).lookup ("longest" : Str) = some (.int (L : Int)) := by rfl
theorem fs_e (l r : Int) (n L : Nat) : (fsD l r n L).lookup ("exceptions" : Str) = some (.ptr (n + 2)) := by rfl
theorem fs_m (l r : Int) (n L : Nat) : (fsD l r n L).lookup ("_odd_places" : Str) = none := by rfl
theorem fs_n (l r : Int) (n L : Nat) : (fsD l r n L).lookup ("points" : Str) = none := by rfl
/-- a divider stands in the store -/
structure DivAt (cs : Cs) (st : Sto) (n : Nat) (ps es : List Str) (l r : Int) : Prop where
  ex : ∃ Gd Ge, st[n]? = some (some (.ins (cs.C "Divider") (fsD l r n (Lm ps)))) ∧ st[n + 1]? = some (some (.dct Gd)) ∧ st[n + 2]? = some (some (.dct Ge)) ∧ Look Gd (lkP ps) ∧ Look Ge (lkE es)
theorem DivAt.app {cs : Cs} {st : Sto} {n : Nat} {ps es : List Str} {l r : Int} (h : DivAt cs st n ps es l r) (more : Sto) : DivAt cs (st ++ more) n ps es l r := by
  obtain ⟨Gd, Ge, h1, h2, h3, h4, h5⟩ := h.ex
  have g : ∀ {k : Nat} {c : Option Cell}, st[k]? = some c → (st ++ more)[k]? = some c := fun {k c} e => by
    rw [List.getElem?_append_left (List.getElem?_eq_some_iff.mp e).1]; exact e
  exact ⟨Gd, Ge, g h1, g h2, g h3, h4, h5⟩
theorem md_get (base rest : Sto) (c : Option Cell) : (base ++ c :: rest)[base.length]? = some c := ap_get0 base (c :: rest)
theorem md_set (base rest : Sto) (c c' : Option Cell) : (base ++ c :: rest).set base.length c' = base ++ c' :: rest := ap_set0 base (c :: rest) c'
theorem found_loop (base rest : Sto) (a0 a1 a4 a5 : Option D) (s : Nat) : ∀ (vs : List Int) (F : List Int) (a6 : Option D), F.length + vs.length ≤ 10000000 → ∀ {N : Sl → Sto → Prop} {R : D → Sto → Prop}, (∀ a6, N [a0, a1, some (.ptr base.length), some (.int (s : Int)), a4, a5, a6] (base ++ some (.lst (iDs (F ++ vs.map fun v => (s : Int) + v))) :: rest)) →
    EnsS (forL (gNm 6) (sDrop (mBM "list" gAppend (mVar 2) (mCons (mBin (gAdd false) (mVar 3) (mVar 6)) mNil))) (iDs vs) [a0, a1, some (.ptr base.length), some (.int (s : Int)), a4, a5, a6] (base ++ some (.lst (iDs F)) :: rest)) N R
  | [], F, a6, h, N, R, q => ens_fnil (by have := q a6; simpa using this)
  | v :: r, F, a6, h, N, R, q => by
    rw [List.length_cons] at h
    refine ens_fcons (ens_red rfl ?_)
    repeat walk_at "es"
    refine ⟨?_, ?_⟩
    · show ("list" == "list" && (lstOf (base ++ some (.lst (iDs F)) :: rest) (.ptr base.length)).isSome) = true
      rw [show lstOf (base ++ some (.lst (iDs F)) :: rest) (.ptr base.length) = some (iDs F) from cellL_is (md_get _ _ _)]; rfl
    repeat walk_at "es"
    refine ens_app (md_get _ _ _) (by rw [iDs_len]; unfold PySem.sizeLine; omega) ?_
    rw [md_set]
    have e2 : iDs F ++ [D.int ((s : Int) + v)] = iDs (F ++ [(s : Int) + v]) := by rw [iDs_app]; rfl
    rw [e2]
    refine found_loop base rest a0 a1 a4 a5 s r _ _ (by rw [List.length_append, List.length_singleton]; omega) fun a6 => ?_
    have := q a6
    rw [List.map_cons] at this
    rw [List.append_assoc]
    exact this
theorem pts_add (cs : Cs) (base rest : Sto) (n : Nat) (ps es : List Str) (l r : Int) (D1 : DivAt cs base n ps es l r) (x : D) (s : Nat) (w : List Nat) (pl : List Int) (F : List Int) (a6 : Option D) (hw : w.length ≤ 1000) (hpl : pl.length ≤ 1000) (hF : F.length ≤ 2000000) {N : Sl → Sto → Prop} {R : D → Sto → Prop}
    (q : ∀ a6, N [some (.ptr n), some x, some (.ptr base.length), some (.int (s : Int)), some (.str (U w)), some (.lst (iDs pl)), a6] (base ++ some (.lst (iDs (F ++ (keptK pl w.length l r).map fun v => (s : Int) + v))) :: rest)) :
    EnsS (sFor (iAny (mCall (callB 4 m_kept) (mCons (mVar 5) (mCons (mVar 4) (mCons (mFld (cs.C "Divider") "left" (mVar 0)) (mCons (mFld (cs.C "Divider") "right" (mVar 0)) mNil)))))) (gNm 6)
    (sDrop (mBM "list" gAppend (mVar 2) (mCons (mBin (gAdd false) (mVar 3) (mVar 6)) mNil))) [some (.ptr n), some x, some (.ptr base.length), some (.int (s : Int)), some (.str (U w)), some (.lst (iDs pl)), a6] (base ++ some (.lst (iDs F)) :: rest)) N R := by
  obtain ⟨Gd, Ge, h1, h2, h3, h4, h5⟩ := (D1.app (some (.lst (iDs F)) :: rest)).ex
  have eU : (U w).length = w.length := by rw [← T_len, T_U]
  repeat walk_at "es"
  refine ens_FLD ?_
  repeat walk_at "es"
  refine ⟨n, _, _, rfl, h1, fs_l _ _ _ _, ?_⟩
  repeat walk_at "es"
  refine ens_FLD ?_
  repeat walk_at "es"
  refine ⟨n, _, _, rfl, h1, fs_r _ _ _ _, ?_⟩
  repeat walk_at "es"
  refine r_kept pl (U w) l r (by omega) (by omega) ?_
  rw [eU]
  refine ⟨_, .inl rfl, ?_⟩
  refine found_loop base rest _ _ _ _ s _ F _ ?_ q
  have : (keptK pl w.length l r).length ≤ pl.length := List.length_filter_le _ _
  omega
theorem frz_tp' {base rest : Sto} {ds : List D} {sl : Sl} {i : Nat} (h : gv sl i = some (.ptr base.length)) : frzAt i sl (base ++ some (Cell.lst ds) :: rest) = some (sl.set i (some (.lst ds)), (base ++ some (Cell.lst ds) :: rest).set base.length none) := by
  unfold frzAt
  rw [h]
  show (match (base ++ some (Cell.lst ds) :: rest)[base.length]? with
    | some (some (.lst ds')) => some (sl.set i (some (D.lst ds')), (base ++ some (Cell.lst ds) :: rest).set base.length none)
    | some (some (.dct ds')) => some (sl.set i (some (D.dct ds')), (base ++ some (Cell.lst ds) :: rest).set base.length none)
    | some (some (.dcT ds')) => some (sl.set i (some (D.dcT ds')), (base ++ some (Cell.lst ds) :: rest).set base.length none)
    | _ => none) = _
  rw [md_get]
theorem r_ptsM (cs : Cs) (base : Sto) (n : Nat) (ps es : List Str) (l r : Int) (D1 : DivAt cs base n ps es l r) (hL : Lm ps ≤ 1000) (he : ∀ e ∈ es, e.length ≤ 100) (x : Str) (hx : x.length ≤ 1000) (asc : ∀ c ∈ T x, c < 128) {Q : D → Sto → Prop}
    (q : ∀ rest, Q (.lst (iDs (ptsK ps es l r (T x)))) (base ++ rest)) : Ens (m_Divider_points cs [.ptr n, .str x] base) Q := by
  refine ens_def [some (.ptr n), some (.str x), none, none, none, none, none] rfl ?_
  unfold b_Divider_points
  repeat walk_at "es"
  refine r_runs x hx asc ?_
  repeat walk_at "es"
  refine ⟨_, .inl rfl, ?_⟩
  unfold ptsK at q
  have hrl := lrs_len (T x) (T x ++ [32]) 0 0
  have hrc := lrs_cnt (T x) (T x ++ [32]) 0 0
  rw [T_len] at hrl
  rw [List.length_append, T_len, List.length_singleton] at hrc
  generalize lrs (T x) 0 0 (T x ++ [32]) = rs at q hrl hrc ⊢
  refine ens_for0 (fun j sl st => ∃ (rest : Sto) (a3 a4 a5 a6 : Option D), sl = [some (.ptr n), some (.str x), some (.ptr base.length), a3, a4, a5, a6] ∧ st = base ++ (some (.lst (iDs ((rs.take j).flatMap (ptK1 ps es l r)))) :: rest) ∧ ((rs.take j).flatMap (ptK1 ps es l r)).length ≤ 1000 * j) ⟨[], none, none, none, none, rfl, rfl, Nat.le_refl _⟩ (fun j y sl st hy hI => ?_) (fun sl st hI => ?_)
  · obtain ⟨rest, a3, a4, a5, a6, rfl, rfl, hF⟩ := hI
    unfold lrD at hy
    have hj := idx_lt hy
    rw [List.length_map] at hj
    rw [List.getElem?_map, List.getElem?_eq_getElem hj] at hy
    cases hy
    have hq := hrl rs[j] (List.getElem_mem hj)
    rw [take_succ' hj, List.flatMap_append]
    generalize (rs.take j).flatMap (ptK1 ps es l r) = F at hF
    generalize rs[j] = p at hq
    obtain ⟨s, w⟩ := p
    have hq : w.length ≤ x.length := hq
    have eP : [(s, w)].flatMap (ptK1 ps es l r) = ptK1 ps es l r (s, w) := by simp
    rw [eP]
    obtain ⟨Gd, Ge, h1, h2, h3, h4, h5⟩ := (D1.app (some (.lst (iDs F)) :: rest)).ex
    repeat walk_at "es"
    refine ens_FLD ?_
    repeat walk_at "es"
    refine ⟨n, _, _, rfl, h1, fs_e _ _ _ _, ?_⟩
    refine ⟨_, dGet_is h3 _, ?_⟩
    repeat walk_at "es"
    have pll := plK_len ps es he w (by omega)
    have hFl : F.length ≤ 2000000 := by omega
    have fin : ∀ (rest' : Sto) (a6 : Option D), EnsS (sFor (iAny (mCall (callB 4 m_kept) (mCons (mVar 5) (mCons (mVar 4) (mCons (mFld (cs.C "Divider") "left" (mVar 0)) (mCons (mFld (cs.C "Divider") "right" (mVar 0)) mNil)))))) (gNm 6)
        (sDrop (mBM "list" gAppend (mVar 2) (mCons (mBin (gAdd false) (mVar 3) (mVar 6)) mNil))) [some (.ptr n), some (.str x), some (.ptr base.length), some (.int (s : Int)), some (.str (U w)), some (.lst (iDs (plK ps es w))), a6] (base ++ some (.lst (iDs F)) :: rest'))
        (fun sl st => ∃ (rest : Sto) (a3 a4 a5 a6 : Option D), sl = [some (.ptr n), some (.str x), some (.ptr base.length), a3, a4, a5, a6] ∧ st = base ++ (some (.lst (iDs (F ++ ptK1 ps es l r (s, w)))) :: rest) ∧ (F ++ ptK1 ps es l r (s, w)).length ≤ 1000 * (j + 1)) (fun d cs => Q d cs) := fun rest' a6 => by
      refine pts_add cs base rest' n ps es l r D1 (.str x) s w (plK ps es w) F a6 (by omega) pll hFl fun a6 => ?_
      refine ⟨rest', _, _, _, _, rfl, rfl, ?_⟩
      have : (keptK (plK ps es w) w.length l r).length ≤ (plK ps es w).length := List.length_filter_le _ _
      unfold ptK1
      rw [List.length_append, List.length_map]
      show _ + (keptK (plK ps es w) w.length l r).length ≤ _
      omega
    have hl := h5 (U w)
    rw [T_U] at hl
    refine ⟨fun h => ?_, fun h => ?_⟩
    · cases hk : lkE es w with
      | none => rw [hl, hk] at h; cases h
      | some ns =>
        rw [hk] at hl
        have epl : plK ps es w = ns := by unfold plK; rw [hk]
        repeat walk_at "es"
        refine ens_FLD ?_
        repeat walk_at "es"
        refine ⟨n, _, _, rfl, h1, fs_e _ _ _ _, ?_⟩
        repeat walk_at "es"
        refine ⟨D.lst (iDs ns), by rw [dGet_is h3, hl]; rfl, ?_⟩
        rw [← epl]
        exact fin rest _
    · cases hk : lkE es w with
      | some ns => rw [hl, hk] at h; cases h
      | none =>
        have epl : plK ps es w = oddK (appG (List.replicate (w.length + 3) 0) (Lp (lkP ps) (Lm ps) (46 :: w ++ [46]))) w.length := by unfold plK; rw [hk]
        have eU : (U w).length = w.length := by rw [← T_len, T_U]
        repeat walk_at "es"
        refine ens_METH ?_
        repeat walk_at "es"
        refine ⟨n, _, rfl, h1, fs_m _ _ _ _, ?_⟩
        repeat walk_at "es"
        refine ens_callA rfl ?_
        refine r_odd cs _ (U w) (lkP ps) (Lm ps) h1 (fs_p _ _ _ _) (fs_o _ _ _ _) h2 h4 (lkP_len ps) (by omega) hL fun G' eG => ?_
        rw [eU, T_U] at eG
        rw [eU, eG, ← epl]
        unfold tpC
        rw [List.append_assoc]
        exact fin _ _
  · obtain ⟨rest, a3, a4, a5, a6, rfl, rfl, hF⟩ := hI
    have el : (lrD rs).length = rs.length := by unfold lrD; rw [List.length_map]
    rw [el, List.take_length]
    refine ens_FRZ (frz_tp' rfl) ?_
    repeat walk_at "es"
    rw [md_set]
    exact q _
end
section
open PySem PySem.Spec L2 M
variable {st : Sto}
/-! ### words one behind the other -/
def Clm (t : List Nat) (rs : List (Nat × List Nat)) (s : Nat) : Prop := s ≤ t.length ∧ ∀ more tail, lrs (t ++ more) 0 0 (t ++ tail) = rs ++ lrs (t ++ more) s t.length tail
def pendR (s : Nat) (t : List Nat) : List (Nat × List Nat) := if s < t.length then [(s, (t.drop s).map low)] else []
theorem clm_nil : Clm [] [] 0 := ⟨Nat.le_refl _, fun _ _ => rfl⟩
theorem clm_let {t : List Nat} {rs : List (Nat × List Nat)} {s c : Nat} (h : Clm t rs s) (hc : lt1 c = true) : Clm (t ++ [c]) rs s := by
  refine ⟨by rw [List.length_append, List.length_singleton]; have := h.1; omega, fun more tail => ?_⟩
  rw [List.append_assoc, List.append_assoc, h.2, List.length_append, List.length_singleton]
  show rs ++ lrs _ s t.length (c :: tail) = _
  rw [lrs, if_pos hc]
theorem clm_sep {t : List Nat} {rs : List (Nat × List Nat)} {s c : Nat} (h : Clm t rs s) (hc : lt1 c = false) : Clm (t ++ [c]) (rs ++ pendR s t) (t ++ [c]).length := by
  refine ⟨Nat.le_refl _, fun more tail => ?_⟩
  rw [List.append_assoc, List.append_assoc, h.2, List.length_append, List.length_singleton]
  show rs ++ lrs _ s t.length (c :: tail) = _
  rw [lrs, if_neg (by rw [hc]; exact Bool.false_ne_true), List.append_assoc]
  congr 2
  unfold pendR
  by_cases z : s < t.length
  · rw [if_pos z, if_pos z]
    congr 2
    rw [List.drop_append_of_le_length h.1, List.take_left' (by rw [List.length_drop])]
  · rw [if_neg z, if_neg z]
theorem clm_word : ∀ (w : List Nat) {t : List Nat} {rs : List (Nat × List Nat)} {s : Nat}, Clm t rs s → (∀ c ∈ w, lt1 c = true) → Clm (t ++ w) rs s
  | [], t, rs, s, h, _ => by rw [List.append_nil]; exact h
  | c :: r, t, rs, s, h, hw => by
    have := clm_word r (clm_let h (hw c List.mem_cons_self)) fun x m => hw x (List.mem_cons_of_mem _ m)
    rw [List.append_assoc] at this
    exact this
/-! ### ascending -/
def AscL (hi : Int) : Int → List Int → Prop
  | lo, [] => lo ≤ hi
  | lo, v :: r => lo ≤ v ∧ AscL hi v r
theorem asc_le {hi : Int} : ∀ {xs : List Int} {lo : Int}, AscL hi lo xs → lo ≤ hi
  | [], _, h => h
  | v :: r, lo, h => Int.le_trans h.1 (asc_le h.2)
theorem asc_lo {hi lo lo' : Int} {xs : List Int} (h : AscL hi lo xs) (l : lo' ≤ lo) : AscL hi lo' xs := by
  cases xs with
  | nil => exact Int.le_trans l h
  | cons v r => exact ⟨Int.le_trans l h.1, h.2⟩
theorem asc_hi {hi hi' : Int} (l : hi ≤ hi') : ∀ {xs : List Int} {lo : Int}, AscL hi lo xs → AscL hi' lo xs
  | [], _, h => Int.le_trans h l
  | _ :: _, _, h => ⟨h.1, asc_hi l h.2⟩
theorem asc_app {m hi : Int} {ys : List Int} (h2 : AscL hi m ys) : ∀ {xs : List Int} {lo : Int}, AscL m lo xs → AscL hi lo (xs ++ ys)
  | [], _, h => asc_lo h2 h
  | _ :: _, _, h => ⟨h.1, asc_app h2 h.2⟩
theorem asc_filter {hi : Int} (f : Int → Bool) : ∀ {xs : List Int} {lo : Int}, AscL hi lo xs → AscL hi lo (xs.filter f)
  | [], _, h => h
  | v :: r, lo, h => by
    rw [List.filter_cons]
    split
    · exact ⟨h.1, asc_filter f h.2⟩
    · exact asc_lo (asc_filter f h.2) h.1
theorem asc_init {hi : Int} : ∀ {xs : List Int} {lo : Int}, AscL hi lo xs → AscL hi lo xs.dropLast
  | [], _, h => h
  | [v], lo, h => Int.le_trans h.1 h.2
  | v :: w :: r, lo, h => ⟨h.1, asc_init h.2⟩
theorem asc_add {hi : Int} (c : Int) : ∀ {xs : List Int} {lo : Int}, AscL hi lo xs → AscL (c + hi) (c + lo) (xs.map fun v => c + v)
  | [], _, h => by show c + _ ≤ c + _; have : _ ≤ _ := h; omega
  | v :: r, lo, h => ⟨by have := h.1; show c + lo ≤ c + v; omega, asc_add c h.2⟩
theorem asc_cum : ∀ (l : List (List Nat)) (a : Nat), AscL ((a + l.flatten.length : Nat) : Int) (a : Int) (cum a l)
  | [], a => by show (a : Int) ≤ _; simp
  | p :: r, a => by
    rw [cum]
    refine ⟨by omega, ?_⟩
    have := asc_cum r (a + p.length)
    rw [List.flatten_cons, List.length_append, ← Nat.add_assoc]
    exact this
theorem asc_rI : ∀ (n : Nat) (lo : Int), AscL (lo + n) lo (rI lo n)
  | 0, lo => by show lo ≤ lo + _; omega
  | n + 1, lo => by
    have e : rI lo (n + 1) = lo :: rI (lo + 1) n := by
      unfold rI
      rw [List.range_succ_eq_map, List.map_cons, List.map_map]
      congr 1
      · omega
      · refine List.map_congr_left fun x _ => ?_
        show lo + ((x + 1 : Nat) : Int) = lo + 1 + (x : Int)
        omega
    rw [e]
    have h := asc_lo (asc_rI n (lo + 1)) (by omega : lo ≤ lo + 1)
    exact ⟨Int.le_refl _, asc_hi (by omega) h⟩
theorem pl_asc (ps es : List Str) (w : List Nat) : AscL (w.length : Int) 0 (plK ps es w) := by
  unfold plK
  cases h : lkE es w with
  | some ns =>
    show AscL _ _ ns
    unfold lkE at h
    cases e : es.find? (fun e => decide (lts (T e) = w)) with
    | none => rw [e] at h; cases h
    | some x =>
      rw [e] at h
      cases h
      have e2 := List.find?_some e
      have e2 := of_decide_eq_true e2
      have := asc_cum (spl 45 (T x)) 0
      rw [spl_flat, Nat.zero_add] at this
      have e3 : (List.filter (fun x => !decide (x = 45)) (T x)).length = w.length := congrArg List.length e2
      rw [e3] at this
      exact asc_init this
  | none =>
    show AscL _ _ (oddK _ _)
    unfold oddK
    refine asc_filter _ ?_
    cases hw : w.length with
    | zero => exact Int.le_refl _
    | succ n =>
      have := asc_lo (asc_rI n 1) (by omega : (0 : Int) ≤ 1)
      exact asc_hi (by omega) this
theorem pt_asc (ps es : List Str) (l r : Int) (s : Nat) (w : List Nat) : AscL ((s + w.length : Nat) : Int) (s : Int) (ptK1 ps es l r (s, w)) := by
  have := asc_add (s : Int) (asc_filter (fun k => decide (l ≤ k) && decide (k ≤ (w.length : Int) - r)) (pl_asc ps es w))
  refine asc_lo (asc_hi ?_ this) ?_
  · omega
  · omega
/-! ### the law's list, built up -/
section
variable (ps es : List Str) (l r : Int)
def Stt (t : List Nat) (due : List Int) : Prop := (∃ rs s, Clm t rs s ∧ due = (rs ++ pendR s t).flatMap (ptK1 ps es l r)) ∧ AscL (t.length : Int) 0 due
def Cls' (t : List Nat) (due : List Int) : Prop := (∃ rs, Clm t rs t.length ∧ due = rs.flatMap (ptK1 ps es l r)) ∧ AscL (t.length : Int) 0 due
end
variable {ps es : List Str} {l r : Int}
theorem cls_nil : Cls' ps es l r [] [] := ⟨⟨[], clm_nil, rfl⟩, Int.le_refl _⟩
theorem cls_stt {t : List Nat} {due : List Int} (h : Cls' ps es l r t due) : Stt ps es l r t due := by
  obtain ⟨⟨rs, h1, h2⟩, h3⟩ := h
  refine ⟨⟨rs, _, h1, ?_⟩, h3⟩
  unfold pendR
  rw [if_neg (Nat.lt_irrefl _), List.append_nil]; exact h2
theorem stt_sep {t : List Nat} {due : List Int} {c : Nat} (h : Stt ps es l r t due) (hc : lt1 c = false) : Cls' ps es l r (t ++ [c]) due := by
  obtain ⟨⟨rs, s, h1, h2⟩, h3⟩ := h
  exact ⟨⟨_, clm_sep h1 hc, h2⟩, asc_hi (by rw [List.length_append, List.length_singleton]; omega) h3⟩
theorem low_low {c : Nat} (h : lt1 c = true) : low (low c) = low c ∧ lt1 (low c) = true := by
  unfold lt1 at h ⊢
  unfold low
  by_cases z : 65 ≤ c ∧ c ≤ 90
  · rw [if_pos z, if_neg (by omega)]
    refine ⟨rfl, ?_⟩
    rw [decide_eq_true (by omega : 97 ≤ c + 32), decide_eq_true (by omega : c + 32 ≤ 122)]; rfl
  · rw [if_neg z, if_neg z]
    exact ⟨rfl, h⟩
theorem lrs_word : ∀ (l full : List Nat) (a : Nat), (∀ c ∈ l, lt1 c = true) → a + l.length = full.length → lrs full 0 a (l ++ [32]) = if full = [] then [] else [(0, full.map low)]
  | [], full, a, h, e => by
    rw [List.nil_append, lrs, if_neg (by decide), lrs, List.append_nil]
    have ea : a = full.length := by simpa using e
    subst ea
    rw [List.drop_zero, Nat.sub_zero, List.take_length]
    cases full with
    | nil => rfl
    | cons _ _ => rfl
  | c :: r, full, a, h, e => by
    rw [List.length_cons] at e
    rw [List.cons_append, lrs, if_pos (h c List.mem_cons_self)]
    exact lrs_word r full (a + 1) (fun x m => h x (List.mem_cons_of_mem _ m)) (by omega)
theorem pts_word {w : List Nat} (hw : ∀ c ∈ w, lt1 c = true) (hn : w ≠ []) : ptsK ps es l r (w.map low) = ptK1 ps es l r (0, w.map low) := by
  have hl : ∀ c ∈ w.map low, lt1 c = true := fun c m => by
    obtain ⟨x, mx, rfl⟩ := List.mem_map.mp m
    exact (low_low (hw x mx)).2
  unfold ptsK
  rw [lrs_word _ _ 0 hl (Nat.zero_add _), if_neg (fun z => hn (List.map_eq_nil_iff.mp z))]
  have : (w.map low).map low = w.map low := by
    rw [List.map_map]
    exact List.map_congr_left fun c m => (low_low (hw c m)).1
  rw [this]
  show _ ++ [] = _
  rw [List.append_nil]
theorem cls_word {t : List Nat} {due : List Int} {w : List Nat} (h : Cls' ps es l r t due) (hw : ∀ c ∈ w, lt1 c = true) (hn : w ≠ []) : Stt ps es l r (t ++ w) (due ++ (ptsK ps es l r (w.map low)).map fun v => (t.length : Int) + v) := by
  obtain ⟨⟨rs, h1, h2⟩, h3⟩ := h
  have hlen : 0 < w.length := List.length_pos_iff.mpr hn
  have e : (ptsK ps es l r (w.map low)).map (fun v => (t.length : Int) + v) = ptK1 ps es l r (t.length, w.map low) := by
    rw [pts_word hw hn]
    unfold ptK1
    rw [List.map_map]
    refine List.map_congr_left fun v _ => ?_
    show (t.length : Int) + ((0 : Nat) + v) = (t.length : Int) + v
    omega
  rw [e]
  refine ⟨⟨rs, t.length, clm_word w h1 hw, ?_⟩, ?_⟩
  · unfold pendR
    rw [if_pos (by rw [List.length_append]; omega), List.drop_left, List.flatMap_append, ← h2]
    show _ = due ++ (ptK1 ps es l r (t.length, w.map low) ++ [])
    rw [List.append_nil]
  · have := pt_asc ps es l r t.length (w.map low)
    rw [List.length_map] at this
    rw [List.length_append]
    exact asc_app this h3
theorem stt_pts {t : List Nat} {due : List Int} (h : Stt ps es l r t due) : ptsK ps es l r t = due := by
  obtain ⟨⟨rs, s, h1, h2⟩, _⟩ := h
  have := h1.2 [] [32]
  rw [List.append_nil] at this
  unfold ptsK
  rw [this, h2]
  congr 2
  rw [lrs, if_neg (by decide), lrs, List.append_nil]
  unfold pendR
  by_cases z : s < t.length
  · rw [if_pos z, if_pos z, List.take_of_length_le (by rw [List.length_drop]; exact Nat.le_refl _)]
  · rw [if_neg z, if_neg z]
/-! ### the parts of a divided text -/
def AscN (hi : Nat) : Nat → List Nat → Prop
  | lo, [] => lo ≤ hi
  | lo, v :: r => lo ≤ v ∧ AscN hi v r
def upI (ns : List Nat) : List Int := ns.map fun (n : Nat) => (n : Int)
theorem asc_nat (hi : Nat) : ∀ (xs : List Int) (lo : Nat), AscL (hi : Int) (lo : Int) xs → ∃ ns, xs = upI ns ∧ AscN hi lo ns
  | [], lo, h => ⟨[], rfl, by have : (lo : Int) ≤ hi := h; show lo ≤ hi; omega⟩
  | v :: r, lo, h => by
    obtain ⟨n, rfl⟩ := Int.eq_ofNat_of_zero_le (by have := h.1; omega : 0 ≤ v)
    obtain ⟨ns, rfl, h2⟩ := asc_nat hi r n h.2
    exact ⟨n :: ns, rfl, by have := h.1; omega, h2⟩
theorem ascN_le {hi : Nat} : ∀ {xs : List Nat} {lo : Nat}, AscN hi lo xs → lo ≤ hi
  | [], _, h => h
  | v :: r, lo, h => Nat.le_trans h.1 (ascN_le h.2)
def dvd (t : List Nat) : Nat → List Nat → List (List Nat)
  | s, [] => [t.drop s]
  | s, p :: r => (t.drop s).take (p - s) :: dvd t p r
theorem dvd_len (t : List Nat) : ∀ (ns : List Nat) (s : Nat), (dvd t s ns).length = ns.length + 1
  | [], _ => rfl
  | p :: r, s => by rw [dvd, List.length_cons, dvd_len t r, List.length_cons]
theorem dvd_flat (t : List Nat) : ∀ (ns : List Nat) (s : Nat), AscN t.length s ns → (dvd t s ns).flatten = t.drop s
  | [], s, _ => by rw [dvd]; simp
  | p :: r, s, h => by
    rw [dvd, List.flatten_cons, dvd_flat t r p h.2]
    have : t.drop p = (t.drop s).drop (p - s) := by rw [List.drop_drop]; congr 1; have := h.1; omega
    rw [this, List.take_append_drop]
theorem dvd_get (t : List Nat) : ∀ (ns : List Nat) (s k : Nat), AscN t.length s ns → (hk : k < ns.length) → ∃ q, (dvd t s ns)[k]? = some q ∧ (s :: ns)[k]'(by rw [List.length_cons]; omega) + q.length = ns[k]
  | [], _, _, _, hk => by simp at hk
  | p :: r, s, 0, h, _ => ⟨_, rfl, by
    have := h.1
    have := ascN_le h.2
    show s + ((t.drop s).take (p - s)).length = p
    rw [List.length_take, List.length_drop]; omega⟩
  | p :: r, s, k + 1, h, hk => by
    rw [List.length_cons] at hk
    obtain ⟨q, h1, h2⟩ := dvd_get t r p k h.2 (by omega)
    exact ⟨q, h1, h2⟩
end
section
open PySem PySem.Spec L2 M
variable {st : Sto}
theorem r_pts (cs : Cs) (ps es : List Str) (l r : Int) (hp : ∀ p ∈ ps, Wp p) (he : ∀ e ∈ es, We e) (np : (ps.map kP).Nodup) (ne : (es.map kW).Nodup) (lp : ps.length ≤ 1000) (le : es.length ≤ 1000) (hL : Lm ps ≤ 1000) (x : Str) (hx : x.length ≤ 1000) (asc : ∀ c ∈ T x, c < 128) {Q : D → Sto → Prop} (q : Q (.lst (iDs (ptsK ps es l r (T x)))) st) :
    Ens (callB 2 (m_points cs) [hyD ps es l r, .str x] st) Q := by
  refine ens_B0 rfl rfl (by simp [pfs, pf, hy_pf]) ?_
  refine ens_def [some (hyD ps es l r), some (.str x)] rfl ?_
  unfold b_points
  repeat walk_at "es"
  refine ens_METH ?_
  refine ens_MAKE ?_
  repeat walk_at "es"
  refine ens_callA rfl ?_
  refine r_init cs [] ps es l r hp he np ne lp le fun Gd Ge hG hE => ⟨rfl, 0, fsD l r 0 (Lm ps), rfl, rfl, fs_n _ _ _ _, ?_⟩
  repeat walk_at "es"
  refine ens_callA rfl ?_
  refine r_ptsM cs _ 0 ps es l r ⟨Gd, Ge, rfl, rfl, rfl, hG, hE⟩ hL (fun e m => (he e m).2.2.2.1) x hx asc fun rest => ⟨?_, q⟩
  simp [pf, pfs_iDs]
theorem sOk_ints (ks : List Int) (h : ks.length ≤ 1000000) : sOk 3 (.lst (iDs ks)) = true := by
  rw [sOk, Bool.and_eq_true, List.all_eq_true]
  refine ⟨decide_eq_true (by rw [iDs_len]; exact h), fun d m => ?_⟩
  unfold iDs at m
  obtain ⟨l, _, rfl⟩ := List.mem_map.mp m
  rfl
def l6 (c : Nat) : Prop := lt1 c = true ∧ c < 128
theorem ens_l6 {v : Int} (h0 : 0 ≤ v) (h1 : v < 8) {Q : D → Sto → Prop} (q : ∀ c, l6 c → Q (.str (U [c])) st) : Ens (gIx st (.str "abcABCab") (.int v)) Q := by
  have : v = 0 ∨ v = 1 ∨ v = 2 ∨ v = 3 ∨ v = 4 ∨ v = 5 ∨ v = 6 ∨ v = 7 := by omega
  rcases this with rfl | rfl | rfl | rfl | rfl | rfl | rfl | rfl
  · exact ens_ixS (i := 0) (by decide) (c := 97) (by decide +kernel) (q _ ⟨rfl, by decide⟩)
  · exact ens_ixS (i := 1) (by decide) (c := 98) (by decide +kernel) (q _ ⟨rfl, by decide⟩)
  · exact ens_ixS (i := 2) (by decide) (c := 99) (by decide +kernel) (q _ ⟨rfl, by decide⟩)
  · exact ens_ixS (i := 3) (by decide) (c := 65) (by decide +kernel) (q _ ⟨rfl, by decide⟩)
  · exact ens_ixS (i := 4) (by decide) (c := 66) (by decide +kernel) (q _ ⟨rfl, by decide⟩)
  · exact ens_ixS (i := 5) (by decide) (c := 67) (by decide +kernel) (q _ ⟨rfl, by decide⟩)
  · exact ens_ixS (i := 6) (by decide) (c := 97) (by decide +kernel) (q _ ⟨rfl, by decide⟩)
  · exact ens_ixS (i := 7) (by decide) (c := 98) (by decide +kernel) (q _ ⟨rfl, by decide⟩)
theorem lc_pick8 {sl : Sl} {j : Nat} {rest : Sto} (h0 : ∀ d, gv (sl.set j (some d)) 0 = some (.ptr 0)) : ∀ (ds : List D) (es : List Nat) (xs : List Int), (∀ c ∈ es, l6 c) → es.length + ds.length ≤ 1000 → ∀ {Q : List D → Sto → Prop}, (∀ es' ys, (∀ c ∈ es', l6 c) → es'.length = es.length + ds.length → Q (chs es') (some (.lst (iDs ys)) :: rest)) →
    Ens (lcL (gNm j) tYesD (mBin gIx (mC (.str "abcABCab")) (mCall (callB 2 m_law_pick) (mCons (mVar 0) (mCons (mC (.int 8)) mNil)))) sl ds (chs es) (some (.lst (iDs xs)) :: rest)) Q
  | [], es, xs, ha, hl, Q, q => ens_ret (q es xs ha (by simp))
  | d :: r, es, xs, ha, hl, Q, q => by
    rw [List.length_cons] at hl
    show Ens (bnd (mBin gIx (mC (.str "abcABCab")) (mCall (callB 2 m_law_pick) (mCons (mVar 0) (mCons (mC (.int 8)) mNil))) (sl.set j (some d)) (some (.lst (iDs xs)) :: rest)) fun y st => if (chs es).length < sizeLine then lcL (gNm j) tYesD _ sl r (chs es ++ [y]) st else none) Q
    refine ens_bnd ?_
    refine ens_bin (ens_C (ens_call (ens_cons (ens_var (h0 d) (ens_cons (ens_C (ens_nil ?_)))))))
    refine s_pickB (by decide) xs fun v ys v0 v1 => ?_
    refine ens_l6 v0 v1 fun c hc => ?_
    refine ens_ite (by unfold chs; rw [List.length_map]; unfold PySem.sizeLine; omega) ?_
    have e : chs es ++ [D.str (U [c])] = chs (es ++ [c]) := by unfold chs; rw [List.map_append]; rfl
    rw [e]
    refine lc_pick8 h0 r (es ++ [c]) ys (fun x m => ?_) (by rw [List.length_append, List.length_singleton]; omega) fun es' ys' h1 h2 => q es' ys' h1 (by rw [h2, List.length_append, List.length_singleton, List.length_cons]; omega)
    rcases List.mem_append.mp m with m | m
    · exact ha x m
    · rw [List.mem_singleton] at m; subst m; exact hc
theorem s_lword (xs : List Int) {Q : D → Sto → Prop} (h : ∀ w ys, (∀ c ∈ w, l6 c) → w ≠ [] → w.length ≤ 9 → Q (.str (U w)) (some (.lst (iDs ys)) :: st)) : Ens (callB 1 m_law_word [.ptr 0] (some (.lst (iDs xs)) :: st)) Q := by
  refine ens_B1 rfl rfl (pfs_iDs xs) ?_
  refine ens_def [some (.ptr 0), none] rfl ?_
  unfold b_law_word
  repeat walk_at "es"
  refine s_pickB (by decide) xs fun v ys v0 v1 => ?_
  repeat walk_at "es"
  refine ⟨by omega, ?_⟩
  have hn : (rngD 0 ((1 : Int) + v).toNat).length = ((1 : Int) + v).toNat := rngD_len _ _
  refine lc_pick8 (j := 1) (fun _ => rfl) _ [] ys (fun _ m => (by cases m)) (by rw [hn]; show 0 + _ ≤ _; omega) fun w ys hw hlw => ?_
  rw [hn] at hlw
  have hlw : w.length = ((1 : Int) + v).toNat := by rw [hlw]; show 0 + _ = _; omega
  repeat walk_at "es"
  refine ens_joinC (by omega) ?_
  refine ⟨_, _, rfl, pfs_iDs ys, rfl, h w ys hw (fun z => ?_) (by omega)⟩
  rw [z] at hlw
  have : (0 : Nat) = ((1 : Int) + v).toNat := hlw
  omega
/-- the places moved by the length of the text -/
theorem lc_moved {sl : Sl} (x : Str) (hx : x.length ≤ 100000) (h3 : ∀ d, gv (sl.set 8 (some d)) 3 = some (.str x)) (hs : sl.length = 14) : ∀ (vs acc : List Int), acc.length + vs.length ≤ 1000000 → ∀ {Q : List D → Sto → Prop}, Q (iDs (acc ++ vs.map fun v => (x.length : Int) + v)) st →
    Ens (lcL (gNm 8) tYesD (mBin (gAdd false) (mCB cLen (mCons (mVar 3) mNil)) (mVar 8)) sl (iDs vs) (iDs acc) st) Q
  | [], acc, _, Q, q => ens_ret (by simpa using q)
  | v :: r, acc, hl, Q, q => by
    rw [List.length_cons] at hl
    show Ens (bnd (mBin (gAdd false) (mCB cLen (mCons (mVar 3) mNil)) (mVar 8) (sl.set 8 (some (.int v))) st) fun y st => if (iDs acc).length < sizeLine then lcL (gNm 8) tYesD _ sl (iDs r) (iDs acc ++ [y]) st else none) Q
    have hv : gv (sl.set 8 (some (.int v))) 8 = some (.int v) := by
      unfold gv
      rw [List.getElem?_set_self (by omega)]
    refine ens_bnd (ens_bin (ens_CB (ens_cons (ens_var (h3 _) (ens_nil ?_)))))
    refine en_lenS ⟨by omega, ?_⟩
    refine ens_var hv (en_addI ?_)
    refine ens_ite (by rw [iDs_len]; unfold PySem.sizeLine; omega) ?_
    have e : iDs acc ++ [D.int ((x.length : Int) + v)] = iDs (acc ++ [(x.length : Int) + v]) := by rw [iDs_app]; rfl
    rw [e]
    refine lc_moved x hx h3 hs r _ (by rw [List.length_append, List.length_singleton]; omega) ?_
    rw [List.map_cons] at q
    rw [List.append_assoc]
    exact q
/-- places drawn -/
theorem lc_drawn {sl : Sl} {hi : Int} (h1 : ∀ d, gv (sl.set 10 (some d)) 1 = some (.ptr 0)) (hs : sl.length = 14) : ∀ (vs acc : List Int) (lo : Int) (xs : List Int), AscL hi lo vs → acc.length + vs.length ≤ 1000000 → ∀ {Q : List D → Sto → Prop}, (∀ zs ys, AscL hi lo zs → zs.length ≤ vs.length → Q (iDs (acc ++ zs)) (some (.lst (iDs ys)) :: st)) →
    Ens (lcL (gNm 10) (mB (mBin gEq (mCall (callB 2 m_law_pick) (mCons (mVar 1) (mCons (mC (.int 4)) mNil))) (mC (.int 1)))) (mVar 10) sl (iDs vs) (iDs acc) (some (.lst (iDs xs)) :: st)) Q
  | [], acc, lo, xs, ha, _, Q, q => ens_ret (by have := q [] xs ha (Nat.le_refl _); simpa using this)
  | v :: r, acc, lo, xs, ha, hl, Q, q => by
    rw [List.length_cons] at hl
    show Ens (bnd (mB (mBin gEq (mCall (callB 2 m_law_pick) (mCons (mVar 1) (mCons (mC (.int 4)) mNil))) (mC (.int 1))) (sl.set 10 (some (.int v))) (some (.lst (iDs xs)) :: st)) fun b s => cond b (bnd (mVar 10 (sl.set 10 (some (.int v))) s) fun y s => if (iDs acc).length < sizeLine then lcL (gNm 10) _ (mVar 10) sl (iDs r) (iDs acc ++ [y]) s else none) (lcL (gNm 10) _ (mVar 10) sl (iDs r) (iDs acc) s)) Q
    have hv : gv (sl.set 10 (some (.int v))) 10 = some (.int v) := by
      unfold gv
      rw [List.getElem?_set_self (by omega)]
    refine ens_bnd (ens_B (ens_bin (ens_call (ens_cons (ens_var (h1 _) (ens_cons (ens_C (ens_nil ?_))))))))
    refine s_pickB (by decide) xs fun u ys _ _ => ?_
    refine ens_C (en_eqI ⟨_, rfl, ?_⟩)
    refine ens_cond (fun _ => ?_) fun _ => ?_
    · refine ens_bnd (ens_var hv (ens_ite (by rw [iDs_len]; unfold PySem.sizeLine; omega) ?_))
      have e : iDs acc ++ [D.int v] = iDs (acc ++ [v]) := by rw [iDs_app]; rfl
      rw [e]
      refine lc_drawn h1 hs r _ v ys ha.2 (by rw [List.length_append, List.length_singleton]; omega) fun zs ys hz lz => ?_
      have := q (v :: zs) ys ⟨ha.1, hz⟩ (by rw [List.length_cons, List.length_cons]; omega)
      rw [List.append_assoc]
      exact this
    · refine lc_drawn h1 hs r _ lo ys (asc_lo ha.2 ha.1) (by omega) fun zs ys hz lz => q zs ys hz (by rw [List.length_cons]; omega)
theorem dvd_loop (x : Str) (hx : x.length ≤ 1000) (a1 : Option D) : ∀ (ns : List Nat) (s : Nat) (acc : List D) (a4 : Option D), acc.length + ns.length ≤ 100000 → ∀ {N : Sl → Sto → Prop} {R : D → Sto → Prop}, (∀ s' a4, (∀ l : List (List Nat), l ++ [(T x).drop s'] = dvd (T x) s ns → N [some (.str x), a1, some (.ptr 0), some (.int ((s' : Nat) : Int)), a4] [some (.lst (acc ++ l.map fun q => .str (U q)))])) →
    EnsS (forL (gNm 4) (sSeq (sDrop (mBM "list" gAppend (mVar 2) (mCons (mSl false (mVar 0) (mPart (mVar 3)) (mPart (mVar 4))) mNil)))
    (sAsg (mVar 4) (gNm 3))) (iDs (upI ns)) [some (.str x), a1, some (.ptr 0), some (.int (s : Int)), a4] [some (.lst acc)]) N R
  | [], s, acc, a4, h, N, R, q => ens_fnil (by have := q s a4 [] rfl; simpa using this)
  | p :: r, s, acc, a4, h, N, R, q => by
    rw [List.length_cons] at h
    refine ens_fcons (ens_red rfl ?_)
    repeat walk_at "es"
    refine ens_glS (by omega) ?_
    repeat walk_at "es"
    refine ens_app rfl (by unfold PySem.sizeLine; omega) ?_
    repeat walk_at "es"
    have ec : cutS x (some (s : Int)) (some (p : Int)) = U (((T x).drop s).take (p - s)) := eq_U.mpr (cut_mid x s p)
    rw [ec]
    refine dvd_loop x hx a1 r p _ _ (by rw [List.length_append, List.length_singleton]; omega) fun s' a4 l hl => ?_
    have := q s' a4 (((T x).drop s).take (p - s) :: l) (by rw [dvd, List.cons_append, hl])
    rw [List.map_cons] at this
    rw [List.append_assoc]
    exact this
theorem cut_from (z : Str) (a : Nat) : T (cutS z (some (a : Int)) none) = (T z).drop a := by
  rw [T_cut, HT.sIx_none, HT.sIx_nat]
  by_cases h : a ≤ (T z).length
  · rw [Nat.min_eq_left h, List.take_of_length_le (by rw [List.length_drop]; omega)]
  · rw [Nat.min_eq_right (by omega), Nat.sub_self, List.drop_of_length_le (i := a) (by omega)]; rfl
theorem r_dvd (x : Str) (hx : x.length ≤ 1000) (ns : List Nat) (hn : ns.length ≤ 10000) {Q : D → Sto → Prop} (q : Q (.lst ((dvd (T x) 0 ns).map fun q => .str (U q))) st) : Ens (callB 2 m_divided [.str x, .lst (iDs (upI ns))] st) Q := by
  refine ens_B0 rfl rfl (by simp [pfs, pf, pfs_iDs]) ?_
  refine ens_def [some (.str x), some (.lst (iDs (upI ns))), none, none, none] rfl ?_
  unfold b_divided
  repeat walk_at "es"
  refine ⟨_, .inl rfl, ?_⟩
  refine dvd_loop x hx _ ns 0 [] _ (by show 0 + _ ≤ _; omega) fun s' a4 l hl => ?_
  have ll : l.length = ns.length := by
    have := congrArg List.length hl
    rw [dvd_len, List.length_append, List.length_singleton] at this
    omega
  repeat walk_at "es"
  refine ens_glS (by omega) ?_
  repeat walk_at "es"
  refine ens_app rfl (by rw [List.length_append, List.length_map]; show 0 + _ < _; unfold PySem.sizeLine; omega) ?_
  repeat walk_at "es"
  have ec : cutS x (some ((s' : Nat) : Int)) none = U ((T x).drop s') := eq_U.mpr (cut_from x s')
  have eA : ([] ++ l.map (fun q => D.str (U q)) ++ [D.str (cutS x (some ((s' : Nat) : Int)) none)]) = (dvd (T x) 0 ns).map fun q => D.str (U q) := by
    rw [← hl, List.map_append, List.nil_append, ec]; rfl
  rw [eA]
  refine ⟨?_, q⟩
  rw [show ((dvd (T x) 0 ns).map fun q => D.str (U q)) = ((dvd (T x) 0 ns).map U).map D.str by rw [List.map_map]; rfl]
  show pfs _ = true
  exact pfs_strs _
theorem flat_len : ∀ (pp : List (List Nat)) {q : List Nat}, q ∈ pp → q.length ≤ pp.flatten.length
  | [], _, m => by cases m
  | p :: r, q, m => by
    rw [List.flatten_cons, List.length_append]
    rcases List.mem_cons.mp m with rfl | m
    · omega
    · have := flat_len r m; omega
/-- one row of places, held against the parts -/
theorem row_ok (x : Str) (hx : x.length ≤ 1000) (ns : List Nat) (hn : ns.length ≤ 10000) (ha : AscN (T x).length 0 ns) (a0 a1 a2 a4 a5 a6 a7 a8 a9 a10 a12 a13 : Option D) {N : Sl → Sto → Prop} {R : D → Sto → Prop} (q : ∀ a5 a12 a13, N [a0, a1, a2, some (.str x), a4, a5, a6, a7, a8, a9, a10, some (.lst (iDs (upI ns))), a12, a13] st) :
    EnsS ((sSeq (sAsg (mCall (callB 2 m_divided) (mCons (mVar 3) (mCons (mCB (cList false) (mCons (mVar 11) mNil)) mNil))) (gNm 12))
    (sSeq (sIf (mOr (mNot (mTru (mUn (gIsi "list") (mVar 12)))) (mOr (mB (mBin gNe (mCB cLen (mCons (mVar 12) mNil)) (mBin (gAdd false) (mCB cLen (mCons (mVar 11) mNil)) (mC (.int 1))))) (mB (mBin gNe (mBM "str" gJoin (mC (.str "")) (mCons (mVar 12) mNil)) (mVar 3)))))
    (sRet (mC (.bl false)))
    sNext)
    (sSeq (sAsg (mC (.int 0)) (gNm 13))
    (sFor (iR1 (mCons (mCB cLen (mCons (mVar 11) mNil)) mNil)) (gNm 5)
    (sSeq (sAsg (mBin (gAdd false) (mVar 13) (mCB cLen (mCons (mBin gIx (mVar 12) (mVar 5)) mNil))) (gNm 13))
    (sIf (mB (mBin gNe (mVar 13) (mBin gIx (mVar 11) (mVar 5))))
    (sRet (mC (.bl false)))
    sNext)))))) [a0, a1, a2, some (.str x), a4, a5, a6, a7, a8, a9, a10, some (.lst (iDs (upI ns))), a12, a13] st) N R := by
  have lu : (upI ns).length = ns.length := List.length_map ..
  repeat walk_at "es"
  refine r_dvd x hx ns hn ?_
  have hdl := dvd_len (T x) ns 0
  have hdf := dvd_flat (T x) ns 0 ha
  have hdg := dvd_get (T x) ns 0
  generalize dvd (T x) 0 ns = pp at hdl hdf hdg
  rw [List.drop_zero] at hdf
  repeat walk_at "es"
  rw [iDs_len, List.length_map, hdl, lu]
  refine ⟨fun h => ?_, fun _ => ?_⟩
  · exfalso
    have : (((ns.length + 1 : Nat) : Int) = (ns.length : Int) + 1) := by omega
    rw [decide_eq_true this] at h
    cases h
  · repeat walk_at "es"
    rw [show (pp.map fun q => D.str (U q)) = (pp.map U).map D.str by rw [List.map_map]; rfl]
    have ejo : ((pp.map U).map T).flatten = T x := by
      rw [List.map_map, ← hdf]
      congr 1
      conv => rhs; rw [← List.map_id pp]
      exact List.map_congr_left fun q _ => T_U q
    refine ens_join (by rw [ejo, T_len]; omega) fun y ey => ?_
    have ey : y = x := T_inj (by rw [ey, ejo])
    subst ey
    repeat walk_at "es"
    rw [iDs_len, lu]
    refine ⟨by omega, ?_⟩
    refine ens_for0 (fun k sl s => s = st ∧ ∃ a5, sl = [a0, a1, a2, some (.str y), a4, a5, a6, a7, a8, a9, a10, some (.lst (iDs (upI ns))), some (.lst ((pp.map U).map D.str)), some (.int (((0 :: ns).getD k 0 : Nat) : Int))]) ⟨rfl, _, rfl⟩ (fun k x sl s hx2 hI => ?_) (fun sl s hI => ?_)
    · obtain ⟨rfl, a5, rfl⟩ := hI
      obtain ⟨hk, rfl⟩ := rng_lt hx2
      have hk : k < ns.length := by omega
      rw [show (0 : Int) + (k : Int) = (k : Int) by omega]
      obtain ⟨q1, g1, g2⟩ := hdg k ha hk
      have hql : q1.length ≤ 1000 := by
        have := flat_len pp (List.mem_of_getElem? g1)
        rw [hdf, T_len] at this; omega
      have e0 : (0 :: ns).getD k 0 = (0 :: ns)[k]'(by rw [List.length_cons]; omega) := by
        rw [List.getD_eq_getElem?_getD, List.getElem?_eq_getElem (by rw [List.length_cons]; omega)]; rfl
      have e1 : (0 :: ns).getD (k + 1) 0 = ns[k] := by
        rw [List.getD_eq_getElem?_getD]
        show (ns[k]?).getD 0 = _
        rw [List.getElem?_eq_getElem hk]; rfl
      have e2 : (upI ns).getD k 0 = ((ns[k] : Nat) : Int) := by
        unfold upI
        rw [List.getD_eq_getElem?_getD, List.getElem?_map, List.getElem?_eq_getElem hk]; rfl
      repeat walk_at "es"
      refine ens_ix (ds := (pp.map U).map D.str) rfl (at_nat (by rw [List.getElem?_map, List.getElem?_map, g1]; rfl)) ?_
      repeat walk_at "es"
      have lq : (U q1).length = q1.length := by rw [← T_len, T_U]
      refine en_lenS ⟨by omega, ?_⟩
      repeat walk_at "es"
      refine ens_ix (ds := iDs (upI ns)) rfl (at_iDs (by rw [lu]; exact hk)) ?_
      repeat walk_at "es"
      rw [e0, e2, lq, show ((((0 :: ns)[k]'(by rw [List.length_cons]; omega) : Nat) : Int) + (q1.length : Int)) = ((ns[k] : Nat) : Int) by omega]
      repeat walk_at "es"
      exact ⟨rfl, _, by rw [e1]; rfl⟩
    · obtain ⟨rfl, a5, rfl⟩ := hI
      exact q _ _ _
theorem ens_sep {v : Int} (h0 : 0 ≤ v) (h1 : v < 8) {Q : D → Sto → Prop} (q : ∀ c, lt1 c = false → c < 128 → Q (.str (U [c])) st) : Ens (gIx st (.lst [.str "-", .str " ", .str ".", .str "1", .str "'", .str "\n", .str "_", .str "~"]) (.int v)) Q := by
  have : v = 0 ∨ v = 1 ∨ v = 2 ∨ v = 3 ∨ v = 4 ∨ v = 5 ∨ v = 6 ∨ v = 7 := by omega
  rcases this with rfl | rfl | rfl | rfl | rfl | rfl | rfl | rfl
  · exact ens_red rfl (q 45 rfl (by decide))
  · exact ens_red rfl (q 32 rfl (by decide))
  · exact ens_red rfl (q 46 rfl (by decide))
  · exact ens_red rfl (q 49 rfl (by decide))
  · exact ens_red rfl (q 39 rfl (by decide))
  · exact ens_red rfl (q 10 rfl (by decide))
  · exact ens_red rfl (q 95 rfl (by decide))
  · exact ens_red rfl (q 126 rfl (by decide))
theorem enS_imp {m : MM Fl} {N N' : Sl → Sto → Prop} {R : D → Sto → Prop} (h : EnsS m N' R) (k : ∀ sl st, N' sl st → N sl st) : EnsS m N R := Ens.imp h fun f st q => by
  cases f with
  | nx sl => exact k _ _ q
  | rt d => exact q
  | bk _ => exact q
  | ct _ => exact q
/-- what the text keeps -/
def Tx8 (x : Str) (n : Nat) : Prop := (∀ c ∈ T x, c < 128) ∧ x.length ≤ n
theorem tx_app {x y : Str} {n m : Nat} (h : Tx8 x n) (hy : ∀ c ∈ T y, c < 128) (l : y.length ≤ m) : Tx8 (x ++ y) (n + m) := by
  refine ⟨fun c mc => ?_, ?_⟩
  · rw [T_app] at mc
    rcases List.mem_append.mp mc with mc | mc
    · exact h.1 c mc
    · exact hy c mc
  · rw [← T_len, T_app, List.length_append, T_len, T_len]
    have := h.2; omega
theorem math (cs : Cs) (kn : Kn cs) (ns : List Int) (hns : ns.length ≤ 63) : ∃ st, m_law cs [.scr ns] [] = some (.ok (.bl true) st) := by
  suffices h : Ens (m_law cs [.scr ns] []) fun d st => d = .bl true by
    obtain ⟨d, st, e, rfl⟩ := h
    exact ⟨st, e⟩
  refine ens_def [some (.scr ns), none, none, none, none, none, none, none, none, none, none, none, none, none] rfl ?_
  unfold b_law
  repeat walk_at "es"
  refine s_numbersB ns hns fun xs => ?_
  repeat walk_at "es"
  refine s_lpatsB (by decide) (by decide) xs fun ps ys np lp gw => ?_
  repeat walk_at "es"
  refine s_lexcB (by decide) (by decide) ys fun es ys ne le hp => ?_
  repeat walk_at "es"
  refine s_pickB (by decide) ys fun v1 ys _ _ => ?_
  repeat walk_at "es"
  refine s_pickB (by decide) ys fun v2 ys _ _ => ?_
  repeat walk_at "es"
  generalize hl1 : (1 : Int) + v1 = l
  generalize hr1 : (1 : Int) + v2 = r
  have hes : ∀ e ∈ es, e.length ≤ 100 := fun e m => (hp e m).2.2.2.1
  have hLm : Lm ps ≤ 1000 := Lm_le ps 1000 fun p m => by have := (gw p m).2; omega
  have hwp : ∀ p ∈ ps, Wp p := fun p m => (gw p m).1
  refine s_pickB (by decide) ys fun v3 ys v30 v31 => ?_
  repeat walk_at "es"
  refine ⟨by omega, ?_⟩
  show EnsS (forL _ _ _ [some (.scr ns), some (.ptr 0), some (hyD ps es l r), some (.str ""), some (.lst (iDs [])), none, none, none, none, none, none, none, none, none] _) _ _
  refine ens_for0 (fun k sl st => ∃ (ys : List Int) (x : Str) (due : List Int) (a5 a6 a7 a8 : Option D), sl = [some (.scr ns), some (.ptr 0), some (hyD ps es l r), some (.str x), some (.lst (iDs due)), a5, a6, a7, a8, none, none, none, none, none] ∧ st = [some (.lst (iDs ys))] ∧ Stt ps es l r (T x) due ∧ (k = 0 → Cls' ps es l r (T x) due) ∧ Tx8 x (12 * k) ∧ due.length ≤ 1000 * k) ⟨ys, "", [], none, none, none, none, rfl, rfl, cls_stt cls_nil, fun _ => cls_nil, ⟨fun c m => (by cases m), Nat.le_refl _⟩, Nat.le_refl _⟩ (fun k d sl st hd hI => ?_) (fun sl st hI => ?_)
  · obtain ⟨ys, x, due, a5, a6, a7, a8, rfl, rfl, hS, hC, hx, hdl⟩ := hI
    obtain ⟨hk, rfl⟩ := rng_lt hd
    have hk7 : k < 7 := by omega
    rw [show (0 : Int) + (k : Int) = (k : Int) by omega]
    repeat walk_at "es"
    refine s_pickB (by decide) ys fun u ys u0 u1 => ?_
    repeat walk_at "es"
    have hb : ∃ b : Nat, (if decide ((0 : Int) < (k : Int)) = true then (1 : Int) else 0) = (b : Int) ∧ b ≤ 1 ∧ (0 < k → 1 ≤ b) := by
      by_cases z : (0 : Int) < (k : Int)
      · exact ⟨1, by rw [decide_eq_true z]; rfl, Nat.le_refl _, fun _ => Nat.le_refl _⟩
      · exact ⟨0, by rw [decide_eq_false z]; rfl, by omega, fun h => by omega⟩
    obtain ⟨b, eb, b1, b2⟩ := hb
    refine ens_red (x := .int (if decide ((0 : Int) < (k : Int)) = true then (1 : Int) else 0)) rfl ?_
    rw [eb]
    repeat walk_at "es"
    refine ⟨by omega, ?_⟩
    have en : ((u : Int) + (b : Int)).toNat = u.toNat + b := by omega
    rw [en]
    refine ens_for0 (fun j sl st => ∃ (ys : List Int) (x : Str) (a6 : Option D), sl = [some (.scr ns), some (.ptr 0), some (hyD ps es l r), some (.str x), some (.lst (iDs due)), some (.int (k : Int)), a6, a7, a8, none, none, none, none, none] ∧ st = [some (.lst (iDs ys))] ∧ Stt ps es l r (T x) due ∧ (k = 0 ∨ 0 < j → Cls' ps es l r (T x) due) ∧ Tx8 x (12 * k + j)) ⟨ys, x, a6, rfl, rfl, hS, fun h => hC (by omega), hx⟩ (fun j d sl st hd2 hI => ?_) (fun sl st hI => ?_)
    · obtain ⟨ys, x, a6, rfl, rfl, hS, hC, hx⟩ := hI
      obtain ⟨hj, rfl⟩ := rng_lt hd2
      refine ens_red rfl ?_
      repeat walk_at "es"
      refine s_pickB (by decide) ys fun v ys v0 v1 => ?_
      refine ens_sep v0 v1 fun c hc c1 => ?_
      refine ens_addS (by have := hx.2; show x.length + 1 ≤ _; omega) ?_
      have hcl := stt_sep hS hc
      have eT : T (x ++ U [c]) = T x ++ [c] := by rw [T_app, T_one]
      refine ⟨ys, _, _, rfl, rfl, by rw [eT]; exact cls_stt hcl, fun _ => by rw [eT]; exact hcl, tx_app (n := 12 * k + j) (m := 1) hx (fun d m => by rw [T_one, List.mem_singleton] at m; subst m; exact c1) (Nat.le_refl _)⟩
    · obtain ⟨ys, x, a6, rfl, rfl, hS, hC, hx⟩ := hI
      rw [rngD_len] at hC hx
      have hC := hC (by omega)
      have hx12 : x.length ≤ 12 * k + 3 := by have := hx.2; omega
      repeat walk_at "es"
      refine s_lword ys fun w ys hw hwn hwl => ?_
      repeat walk_at "es"
      have lw : (U w).length = w.length := by rw [← T_len, T_U]
      refine ens_ite (by show (U w).length ≤ 5592405; omega) (ens_ret ?_)
      repeat walk_at "es"
      have elow : T (Txt.lower (U w)) = w.map low := by
        rw [T_low, T_U]
        intro c m
        rw [T_U] at m
        exact (hw c m).2
      have llow : (Txt.lower (U w)).length ≤ 1000 := by rw [← T_len, elow, List.length_map]; omega
      refine r_pts cs ps es l r hwp hp np ne (by omega) (by omega) hLm (Txt.lower (U w)) llow (fun c m => ?_) ?_
      · rw [elow] at m
        obtain ⟨d, md, rfl⟩ := List.mem_map.mp m
        have := (hw d md).2
        unfold low; split <;> omega
      rw [elow]
      have hpl : (ptsK ps es l r (w.map low)).length ≤ 1000 := by
        rw [pts_word (fun c m => (hw c m).1) hwn]
        unfold ptK1
        rw [List.length_map]
        refine Nat.le_trans (List.length_filter_le _ _) (plK_len ps es hes _ ?_)
        show (w.map low).length ≤ 1000
        rw [List.length_map]; omega
      have hdue' := cls_word hC (fun c m => (hw c m).1) hwn
      rw [T_len] at hdue'
      generalize ptsK ps es l r (w.map low) = pk at hpl hdue'
      refine ⟨_, .inl rfl, ?_⟩
      refine lc_moved x (by omega) (fun _ => rfl) rfl pk [] (by show 0 + _ ≤ _; omega) ?_
      repeat walk_at "es"
      refine en_addL ⟨by rw [iDs_len, iDs_len, List.length_append, List.length_map]; show _ + (0 + _) ≤ _; omega, ?_⟩
      repeat walk_at "es"
      refine ens_addS (by omega) ?_
      rw [← iDs_app, List.nil_append]
      have eT : T (x ++ U w) = T x ++ w := by rw [T_app, T_U]
      refine ⟨ys, _, _, _, _, _, _, rfl, rfl, by rw [eT]; exact hdue', fun z => by omega, ?_, by rw [List.length_append, List.length_map]; omega⟩
      have := tx_app (y := U w) (m := 9) hx (fun d m => by rw [T_U] at m; exact (hw d m).2) (by omega)
      exact ⟨this.1, by have := this.2; omega⟩
  · obtain ⟨ys, x, due, a5, a6, a7, a8, rfl, rfl, hS, _, hx, hdl⟩ := hI
    rw [rngD_len] at hx hdl
    have hx84 : Tx8 x 84 := ⟨hx.1, by have := hx.2; omega⟩
    have hd7 : due.length ≤ 7000 := by omega
    clear hx hdl
    refine ens_seq (enS_imp (N' := fun sl st => ∃ (ys : List Int) (x : Str), sl = [some (.scr ns), some (.ptr 0), some (hyD ps es l r), some (.str x), some (.lst (iDs due)), a5, a6, a7, a8, none, none, none, none, none] ∧ st = [some (.lst (iDs ys))] ∧ Stt ps es l r (T x) due ∧ Tx8 x 86) ?_ ?_)
    · repeat walk_at "es"
      refine s_pickB (by decide) ys fun v ys _ _ => ?_
      repeat walk_at "es"
      refine ⟨fun _ => ?_, fun _ => ?_⟩
      · repeat walk_at "es"
        refine s_pickB (by decide) ys fun v ys v0 v1 => ?_
        have one : ∀ c, lt1 c = false → c < 128 → Stt ps es l r (T (x ++ U [c])) due ∧ Tx8 (x ++ U [c]) 86 := fun c hc c1 => by
          have h2 := tx_app (y := U [c]) (m := 1) hx84 (fun d m => by rw [T_one, List.mem_singleton] at m; subst m; exact c1) (Nat.le_refl _)
          rw [T_app, T_one]
          exact ⟨cls_stt (stt_sep hS hc), h2.1, by have := h2.2; omega⟩
        have : v = 0 ∨ v = 1 ∨ v = 2 ∨ v = 3 := by omega
        have hxl := hx84.2
        rcases this with rfl | rfl | rfl | rfl
        · refine ens_red rfl ?_
          refine ens_addS (by show x.length + 1 ≤ _; omega) ?_
          exact ⟨ys, _, rfl, rfl, one 33 rfl (by decide)⟩
        · refine ens_red rfl ?_
          refine ens_addS (by show x.length + 1 ≤ _; omega) ?_
          exact ⟨ys, _, rfl, rfl, one 46 rfl (by decide)⟩
        · refine ens_red rfl ?_
          refine ens_addS (by show x.length + 2 ≤ _; omega) ?_
          refine ⟨ys, _, rfl, rfl, ?_, ?_⟩
          · have e2 : T (x ++ (Str.ofString "--")) = T x ++ [45] ++ [45] := by
              rw [T_app, List.append_assoc]; rfl
            rw [e2]
            exact cls_stt (stt_sep (cls_stt (stt_sep hS rfl)) rfl)
          · have h2 := tx_app (y := Str.ofString "--") (m := 2) hx84 (fun d m => by
              have : d ∈ [45, 45] := m
              simp at this
              omega) (Nat.le_refl _)
            exact ⟨h2.1, by have := h2.2; omega⟩
        · refine ens_red rfl ?_
          refine ens_addS (by show x.length + 1 ≤ _; omega) ?_
          exact ⟨ys, _, rfl, rfl, one 32 rfl (by decide)⟩
      · exact ens_next ⟨ys, x, rfl, rfl, hS, hx84.1, by have := hx84.2; omega⟩
    · rintro sl st ⟨ys, x, rfl, rfl, hS, hx⟩
      have hxl := hx.2
      have sok := sOk_ints due (by omega)
      repeat walk_at "es"
      refine r_pts cs ps es l r hwp hp np ne (by omega) (by omega) hLm x (by omega) hx.1 ?_
      rw [stt_pts hS]
      repeat walk_at "es"
      refine r_same 3 _ sok ?_
      repeat walk_at "es"
      refine en_lenS ⟨by omega, ?_⟩
      repeat walk_at "es"
      refine ⟨_, _, rfl, ⟨by omega, by omega, by omega, by omega⟩, ?_⟩
      rw [rngD_I]
      have hasc : AscL (x.length : Int) 0 (rI 1 ((x.length : Int) - 1).toNat) := by
        have h1 := asc_lo (asc_rI ((x.length : Int) - 1).toNat 1) (by omega : (0 : Int) ≤ 1)
        by_cases z : x.length = 0
        · rw [z]; exact Int.le_refl _
        · exact asc_hi (by omega) h1
      refine lc_drawn (fun _ => rfl) rfl _ [] 0 ys hasc (by rw [rI_len]; show 0 + _ ≤ _; omega) fun zs ys hz lz => ?_
      rw [rI_len] at lz
      rw [List.nil_append]
      have hdasc := hS.2
      rw [T_len] at hdasc
      obtain ⟨n1, e1, c1⟩ := asc_nat x.length due 0 hdasc
      obtain ⟨n2, e2, c2⟩ := asc_nat x.length zs 0 hz
      have m1 : n1.length ≤ 10000 := by have := congrArg List.length e1; unfold upI at this; rw [List.length_map] at this; omega
      have m2 : n2.length ≤ 10000 := by have := congrArg List.length e2; unfold upI at this; rw [List.length_map] at this; omega
      rw [← T_len] at c1 c2
      repeat walk_at "es"
      refine ⟨_, .inl rfl, ?_⟩
      refine ens_fcons (ens_red rfl ?_)
      rw [e1, e2]
      refine row_ok x (by omega) n1 m1 c1 _ _ _ _ _ _ _ _ _ _ _ _ fun a5 a12 a13 => ?_
      refine ens_fcons (ens_red rfl ?_)
      refine row_ok x (by omega) n2 m2 c2 _ _ _ _ _ _ _ _ _ _ _ _ fun a5 a12 a13 => ?_
      refine ens_fnil ?_
      repeat walk_at "es"
      refine r_pts cs ps es l r hwp hp np ne (by omega) (by omega) hLm "" (by decide) (fun c m => by cases m) ?_
      have e0 : ptsK ps es l r (T "") = [] := by
        show (lrs [] 0 0 ([] ++ [32])).flatMap _ = []
        rfl
      rw [e0]
      repeat walk_at "es"
      exact ens_red (x := .bl true) rfl rfl
end
end G
namespace G
open PySem PySem.Spec L2 M
theorem all_mk {l : PySem.W.OpenLaw} {w : World} {K : PySem.W.Frag} {h : Heap} {mg : Str → Option Value} {fa f0 f1 f2 f3 f4 f5 f6 f7 f8 f9 f10 f11 f12 f13 f14 f15 f16 f17 f18 f19 f20 f21 : Addr} (X : K.In h) (G0 : h.Ns mainGlobals mg) (hfa : mg "law" = some (.ref fa))
    {od0 an0 od1 an1 od2 an2 od3 an3 od4 an4 od5 an5 od6 an6 od7 an7 od8 an8 od9 an9 od10 an10 od11 an11 od12 an12 od13 an13 od14 an14 od15 an15 od16 an16 od17 an17 od18 an18 od19 an19 od20 an20 od21 an21 : Option Addr} {sl0 sl1 sl2 sl3 sl4 sl5 sl6 sl7 sl8 sl9 sl10 sl11 sl12 sl13 sl14 sl15 sl16 sl17 sl18 sl19 sl20 sl21 : Array (Option Value)} {oc0 kV0 dc0 pm0 cd0 ct0 oc1 kV1 dc1 pm1 cd1 ct1 oc2 kV2 dc2 pm2 cd2 ct2 oc3 kV3 dc3 pm3 cd3 ct3 oc4 kV4 dc4 pm4 cd4 ct4 oc5 kV5 dc5 pm5 cd5 ct5 oc6 kV6 dc6 pm6 cd6 ct6 oc7 kV7 dc7 pm7 cd7 ct7 oc8 kV8 dc8 pm8 cd8 ct8 oc9 kV9 dc9 pm9 cd9 ct9 oc10 kV10 dc10 pm10 cd10 ct10 oc11 kV11 dc11 pm11 cd11 ct11 oc12 kV12 dc12 pm12 cd12 ct12 oc13 kV13 dc13 pm13 cd13 ct13 oc14 kV14 dc14 pm14 cd14 ct14 oc15 kV15 dc15 pm15 cd15 ct15 oc16 kV16 dc16 pm16 cd16 ct16 oc17 kV17 dc17 pm17 cd17 ct17 oc18 kV18 dc18 pm18 cd18 ct18 oc19 kV19 dc19 pm19 cd19 ct19 oc20 kV20 dc20 pm20 cd20 ct20 oc21 kV21 dc21 pm21 cd21 ct21 : Value}
    {A_Divider : Addr}
    (a0 : PySem.W.nsIn K mainGlobals "is_small" = some (some (.ref f0))) (l0 : K.lookup f0 = some ⟨oc0, od0, .func (PySem.W.fnOf "is_small" "is_small" (defArgs s_is_small) (defBody s_is_small) (defScope s_is_small) .none kV0 dc0 pm0 an0 cd0 ct0), sl0⟩) (c0 : PySem.W.codeIn K cd0 "is_small" = true) (k0 : PySem.W.keepIn K (.ref f0) = true)
    (a1 : PySem.W.nsIn K mainGlobals "is_letter" = some (some (.ref f1))) (l1 : K.lookup f1 = some ⟨oc1, od1, .func (PySem.W.fnOf "is_letter" "is_letter" (defArgs s_is_letter) (defBody s_is_letter) (defScope s_is_letter) .none kV1 dc1 pm1 an1 cd1 ct1), sl1⟩) (c1 : PySem.W.codeIn K cd1 "is_letter" = true) (k1 : PySem.W.keepIn K (.ref f1) = true)
    (a2 : PySem.W.nsIn K mainGlobals "is_digit" = some (some (.ref f2))) (l2 : K.lookup f2 = some ⟨oc2, od2, .func (PySem.W.fnOf "is_digit" "is_digit" (defArgs s_is_digit) (defBody s_is_digit) (defScope s_is_digit) .none kV2 dc2 pm2 an2 cd2 ct2), sl2⟩) (c2 : PySem.W.codeIn K cd2 "is_digit" = true) (k2 : PySem.W.keepIn K (.ref f2) = true)
    (a3 : PySem.W.nsIn K mainGlobals "are_small" = some (some (.ref f3))) (l3 : K.lookup f3 = some ⟨oc3, od3, .func (PySem.W.fnOf "are_small" "are_small" (defArgs s_are_small) (defBody s_are_small) (defScope s_are_small) .none kV3 dc3 pm3 an3 cd3 ct3), sl3⟩) (c3 : PySem.W.codeIn K cd3 "are_small" = true) (k3 : PySem.W.keepIn K (.ref f3) = true)
    (a4 : PySem.W.nsIn K mainGlobals "_pattern" = some (some (.ref f4))) (l4 : K.lookup f4 = some ⟨oc4, od4, .func (PySem.W.fnOf "_pattern" "_pattern" (defArgs s_pattern) (defBody s_pattern) (defScope s_pattern) .none kV4 dc4 pm4 an4 cd4 ct4), sl4⟩) (c4 : PySem.W.codeIn K cd4 "_pattern" = true) (k4 : PySem.W.keepIn K (.ref f4) = true)
    (a5 : PySem.W.nsIn K mainGlobals "_divided_word" = some (some (.ref f5))) (l5 : K.lookup f5 = some ⟨oc5, od5, .func (PySem.W.fnOf "_divided_word" "_divided_word" (defArgs s_divided_word) (defBody s_divided_word) (defScope s_divided_word) .none kV5 dc5 pm5 an5 cd5 ct5), sl5⟩) (c5 : PySem.W.codeIn K cd5 "_divided_word" = true) (k5 : PySem.W.keepIn K (.ref f5) = true)
    (a6 : PySem.W.nsIn K mainGlobals "_kept" = some (some (.ref f6))) (l6 : K.lookup f6 = some ⟨oc6, od6, .func (PySem.W.fnOf "_kept" "_kept" (defArgs s_kept) (defBody s_kept) (defScope s_kept) .none kV6 dc6 pm6 an6 cd6 ct6), sl6⟩) (c6 : PySem.W.codeIn K cd6 "_kept" = true) (k6 : PySem.W.keepIn K (.ref f6) = true)
    (a7 : PySem.W.findIn K (.ref A_Divider) "__init__" = some (some (.ref f7))) (l7 : K.lookup f7 = some ⟨oc7, od7, .func (PySem.W.fnOf "__init__" "Divider.__init__" (defArgs s_Divider_init) (defBody s_Divider_init) (defScope s_Divider_init) .none kV7 dc7 pm7 an7 cd7 ct7), sl7⟩) (c7 : PySem.W.codeIn K cd7 "Divider.__init__" = true) (k7 : PySem.W.keepIn K (.ref f7) = true)
    (a8 : PySem.W.nsIn K mainGlobals "_letter_runs" = some (some (.ref f8))) (l8 : K.lookup f8 = some ⟨oc8, od8, .func (PySem.W.fnOf "_letter_runs" "_letter_runs" (defArgs s_letter_runs) (defBody s_letter_runs) (defScope s_letter_runs) .none kV8 dc8 pm8 an8 cd8 ct8), sl8⟩) (c8 : PySem.W.codeIn K cd8 "_letter_runs" = true) (k8 : PySem.W.keepIn K (.ref f8) = true)
    (a9 : PySem.W.findIn K (.ref A_Divider) "_odd_places" = some (some (.ref f9))) (l9 : K.lookup f9 = some ⟨oc9, od9, .func (PySem.W.fnOf "_odd_places" "Divider._odd_places" (defArgs s_Divider_odd_places) (defBody s_Divider_odd_places) (defScope s_Divider_odd_places) .none kV9 dc9 pm9 an9 cd9 ct9), sl9⟩) (c9 : PySem.W.codeIn K cd9 "Divider._odd_places" = true) (k9 : PySem.W.keepIn K (.ref f9) = true)
    (a10 : PySem.W.findIn K (.ref A_Divider) "points" = some (some (.ref f10))) (l10 : K.lookup f10 = some ⟨oc10, od10, .func (PySem.W.fnOf "points" "Divider.points" (defArgs s_Divider_points) (defBody s_Divider_points) (defScope s_Divider_points) .none kV10 dc10 pm10 an10 cd10 ct10), sl10⟩) (c10 : PySem.W.codeIn K cd10 "Divider.points" = true) (k10 : PySem.W.keepIn K (.ref f10) = true)
    (a11 : PySem.W.nsIn K mainGlobals "points" = some (some (.ref f11))) (l11 : K.lookup f11 = some ⟨oc11, od11, .func (PySem.W.fnOf "points" "points" (defArgs s_points) (defBody s_points) (defScope s_points) .none kV11 dc11 pm11 an11 cd11 ct11), sl11⟩) (c11 : PySem.W.codeIn K cd11 "points" = true) (k11 : PySem.W.keepIn K (.ref f11) = true)
    (a12 : PySem.W.nsIn K mainGlobals "divided" = some (some (.ref f12))) (l12 : K.lookup f12 = some ⟨oc12, od12, .func (PySem.W.fnOf "divided" "divided" (defArgs s_divided) (defBody s_divided) (defScope s_divided) .none kV12 dc12 pm12 an12 cd12 ct12), sl12⟩) (c12 : PySem.W.codeIn K cd12 "divided" = true) (k12 : PySem.W.keepIn K (.ref f12) = true)
    (a13 : PySem.W.nsIn K mainGlobals "_law_numbers" = some (some (.ref f13))) (l13 : K.lookup f13 = some ⟨oc13, od13, .func (PySem.W.fnOf "_law_numbers" "_law_numbers" (defArgs s_law_numbers) (defBody s_law_numbers) (defScope s_law_numbers) .none kV13 dc13 pm13 an13 cd13 ct13), sl13⟩) (c13 : PySem.W.codeIn K cd13 "_law_numbers" = true) (k13 : PySem.W.keepIn K (.ref f13) = true)
    (a14 : PySem.W.nsIn K mainGlobals "_law_pick" = some (some (.ref f14))) (l14 : K.lookup f14 = some ⟨oc14, od14, .func (PySem.W.fnOf "_law_pick" "_law_pick" (defArgs s_law_pick) (defBody s_law_pick) (defScope s_law_pick) .none kV14 dc14 pm14 an14 cd14 ct14), sl14⟩) (c14 : PySem.W.codeIn K cd14 "_law_pick" = true) (k14 : PySem.W.keepIn K (.ref f14) = true)
    (a15 : PySem.W.nsIn K mainGlobals "_law_signs" = some (some (.ref f15))) (l15 : K.lookup f15 = some ⟨oc15, od15, .func (PySem.W.fnOf "_law_signs" "_law_signs" (defArgs s_law_signs) (defBody s_law_signs) (defScope s_law_signs) .none kV15 dc15 pm15 an15 cd15 ct15), sl15⟩) (c15 : PySem.W.codeIn K cd15 "_law_signs" = true) (k15 : PySem.W.keepIn K (.ref f15) = true)
    (a16 : PySem.W.nsIn K mainGlobals "_law_pattern" = some (some (.ref f16))) (l16 : K.lookup f16 = some ⟨oc16, od16, .func (PySem.W.fnOf "_law_pattern" "_law_pattern" (defArgs s_law_pattern) (defBody s_law_pattern) (defScope s_law_pattern) .none kV16 dc16 pm16 an16 cd16 ct16), sl16⟩) (c16 : PySem.W.codeIn K cd16 "_law_pattern" = true) (k16 : PySem.W.keepIn K (.ref f16) = true)
    (a17 : PySem.W.nsIn K mainGlobals "_law_patterns" = some (some (.ref f17))) (l17 : K.lookup f17 = some ⟨oc17, od17, .func (PySem.W.fnOf "_law_patterns" "_law_patterns" (defArgs s_law_patterns) (defBody s_law_patterns) (defScope s_law_patterns) .none kV17 dc17 pm17 an17 cd17 ct17), sl17⟩) (c17 : PySem.W.codeIn K cd17 "_law_patterns" = true) (k17 : PySem.W.keepIn K (.ref f17) = true)
    (a18 : PySem.W.nsIn K mainGlobals "_law_exceptions" = some (some (.ref f18))) (l18 : K.lookup f18 = some ⟨oc18, od18, .func (PySem.W.fnOf "_law_exceptions" "_law_exceptions" (defArgs s_law_exceptions) (defBody s_law_exceptions) (defScope s_law_exceptions) .none kV18 dc18 pm18 an18 cd18 ct18), sl18⟩) (c18 : PySem.W.codeIn K cd18 "_law_exceptions" = true) (k18 : PySem.W.keepIn K (.ref f18) = true)
    (a19 : PySem.W.nsIn K mainGlobals "_law_same" = some (some (.ref f19))) (l19 : K.lookup f19 = some ⟨oc19, od19, .func (PySem.W.fnOf "_law_same" "_law_same" (defArgs s_law_same) (defBody s_law_same) (defScope s_law_same) .none kV19 dc19 pm19 an19 cd19 ct19), sl19⟩) (c19 : PySem.W.codeIn K cd19 "_law_same" = true) (k19 : PySem.W.keepIn K (.ref f19) = true)
    (a20 : PySem.W.nsIn K mainGlobals "_law_word" = some (some (.ref f20))) (l20 : K.lookup f20 = some ⟨oc20, od20, .func (PySem.W.fnOf "_law_word" "_law_word" (defArgs s_law_word) (defBody s_law_word) (defScope s_law_word) .none kV20 dc20 pm20 an20 cd20 ct20), sl20⟩) (c20 : PySem.W.codeIn K cd20 "_law_word" = true) (k20 : PySem.W.keepIn K (.ref f20) = true)
    (a21 : PySem.W.nsIn K mainGlobals "law" = some (some (.ref f21))) (l21 : K.lookup f21 = some ⟨oc21, od21, .func (PySem.W.fnOf "law" "law" (defArgs s_law) (defBody s_law) (defScope s_law) .none kV21 dc21 pm21 an21 cd21 ct21), sl21⟩) (c21 : PySem.W.codeIn K cd21 "law" = true) (k21 : PySem.W.keepIn K (.ref f21) = true)
    (z_int : PySem.W.nsIn K mainGlobals "int" = some none)
    (z_len : PySem.W.nsIn K mainGlobals "len" = some none)
    (z_max : PySem.W.nsIn K mainGlobals "max" = some none)
    (z_enumerate : PySem.W.nsIn K mainGlobals "enumerate" = some none)
    (z_range : PySem.W.nsIn K mainGlobals "range" = some none)
    (z_min : PySem.W.nsIn K mainGlobals "min" = some none)
    (z_str : PySem.W.nsIn K mainGlobals "str" = some none)
    (z_isinstance : PySem.W.nsIn K mainGlobals "isinstance" = some none)
    (z_bool : PySem.W.nsIn K mainGlobals "bool" = some none)
    (z_list : PySem.W.nsIn K mainGlobals "list" = some none)
    (z_tuple : PySem.W.nsIn K mainGlobals "tuple" = some none)
    {t_MOST_LETTERS : Tok} (x_MOST_LETTERS : PySem.W.nsIn K mainGlobals "_MOST_LETTERS" = some (some (.int 12 t_MOST_LETTERS)))
    (n_Divider : PySem.W.nsIn K mainGlobals "Divider" = some (some (.ref A_Divider)))
    (pg_Divider : PySem.W.plainGet K A_Divider Str.empty = true)
    (hd_Divider : PySem.W.hasDictIn K A_Divider = true)
    (po_Divider : PySem.W.plainOver K A_Divider = true)
    (sa_Divider : PySem.W.findIn K (.ref A_Divider) "__setattr__" = some (some (.builtin "object.__setattr__")))
    (mk_Divider : PySem.W.makesIn K A_Divider = true)
    (kc_Divider : PySem.W.keepIn K (.ref A_Divider) = true)
    (na_Divider_left : PySem.W.findIn K (.ref A_Divider) "left" = some none)
    (na_Divider_right : PySem.W.findIn K (.ref A_Divider) "right" = some none)
    (na_Divider_patterns : PySem.W.findIn K (.ref A_Divider) "patterns" = some none)
    (na_Divider_longest : PySem.W.findIn K (.ref A_Divider) "longest" = some none)
    (na_Divider_exceptions : PySem.W.findIn K (.ref A_Divider) "exceptions" = some none)
    (i7 : PySem.W.isFn K (.ref f7) = true)
    (i9 : PySem.W.isFn K (.ref f9) = true)
    (i10 : PySem.W.isFn K (.ref f10) = true) :
    ∃ fd : FuncData, (∀ (s : Shared) (v : Value), BindsTo s fd ⟨[v], []⟩ [("script", v)]) ∧ Here l.prog w K mg fa fd := by
  have e := hfa.symm.trans (PySem.W.mg_of X G0 a21)
  cases e
  refine ⟨PySem.W.fnOf "law" "law" (defArgs s_law) (defBody s_law) (defScope s_law) .none kV21 dc21 pm21 an21 cd21 ct21, fun s v => .of_eq rfl, fun base _ _ s_ H_ a_ ns_ e0 hb sq hl _ => ?_⟩
  let cs0 : Cs := (csOf K [(("Divider" : Str), A_Divider)] [(("Divider" : Str), Value.ref A_Divider)])
  have T : Tx l.prog w K mg base cs0 := ⟨PySem.W.mg_none_of X G0 z_int, PySem.W.mg_none_of X G0 z_len, PySem.W.mg_none_of X G0 z_max, PySem.W.mg_none_of X G0 z_enumerate, PySem.W.mg_none_of X G0 z_range, PySem.W.mg_none_of X G0 z_min, PySem.W.mg_none_of X G0 z_str, PySem.W.mg_none_of X G0 z_isinstance, PySem.W.mg_none_of X G0 z_bool, PySem.W.mg_none_of X G0 z_list, PySem.W.mg_none_of X G0 z_tuple, ⟨_, PySem.W.mg_of X G0 x_MOST_LETTERS⟩, ⟨pg_Divider, hd_Divider, po_Divider, sa_Divider⟩, na_Divider_left, na_Divider_right, na_Divider_patterns, na_Divider_longest, na_Divider_exceptions⟩
  have kn : Kn cs0 := ⟨⟩
  have F0 := fun_mk (st := s_is_small) l0 c0 k0
  have C0 : Cal l.prog w K mg base 1 "is_small" ["sign"] m_is_small := ⟨_, _, ok_is_small F0 T , PySem.W.mg_of X G0 a0, k0, F0.binds (ps := ["sign"]) fun _ _ _ _ _ _ us hl => match us, hl with | [_], _ => rfl⟩
  have F1 := fun_mk (st := s_is_letter) l1 c1 k1
  have C1 : Cal l.prog w K mg base 1 "is_letter" ["sign"] m_is_letter := ⟨_, _, ok_is_letter F1 T , PySem.W.mg_of X G0 a1, k1, F1.binds (ps := ["sign"]) fun _ _ _ _ _ _ us hl => match us, hl with | [_], _ => rfl⟩
  have F2 := fun_mk (st := s_is_digit) l2 c2 k2
  have C2 : Cal l.prog w K mg base 1 "is_digit" ["sign"] m_is_digit := ⟨_, _, ok_is_digit F2 T , PySem.W.mg_of X G0 a2, k2, F2.binds (ps := ["sign"]) fun _ _ _ _ _ _ us hl => match us, hl with | [_], _ => rfl⟩
  have F3 := fun_mk (st := s_are_small) l3 c3 k3
  have C3 : Cal l.prog w K mg base 2 "are_small" ["text"] m_are_small := ⟨_, _, ok_are_small F3 T C0, PySem.W.mg_of X G0 a3, k3, F3.binds (ps := ["text"]) fun _ _ _ _ _ _ us hl => match us, hl with | [_], _ => rfl⟩
  have F4 := fun_mk (st := s_pattern) l4 c4 k4
  have C4 : Cal l.prog w K mg base 3 "_pattern" ["text"] m_pattern := ⟨_, _, ok_pattern F4 T C2 C3, PySem.W.mg_of X G0 a4, k4, F4.binds (ps := ["text"]) fun _ _ _ _ _ _ us hl => match us, hl with | [_], _ => rfl⟩
  have F5 := fun_mk (st := s_divided_word) l5 c5 k5
  have C5 : Cal l.prog w K mg base 3 "_divided_word" ["text"] m_divided_word := ⟨_, _, ok_divided_word F5 T C3, PySem.W.mg_of X G0 a5, k5, F5.binds (ps := ["text"]) fun _ _ _ _ _ _ us hl => match us, hl with | [_], _ => rfl⟩
  have F6 := fun_mk (st := s_kept) l6 c6 k6
  have C6 : Cal l.prog w K mg base 1 "_kept" ["places", "letters", "left", "right"] m_kept := ⟨_, _, ok_kept F6 T , PySem.W.mg_of X G0 a6, k6, F6.binds (ps := ["places", "letters", "left", "right"]) fun _ _ _ _ _ _ us hl => match us, hl with | [_, _, _, _], _ => rfl⟩
  have F7 := fun_mk (st := s_Divider_init) l7 c7 k7
  have C7 : CalI l.prog w K mg base 4 (cs0.C "Divider") "Divider" ["self", "hyphens"] (m_Divider_init cs0) := ⟨_, _, ok_Divider_init F7 T C4 C5, ⟨mk_Divider, a7, i7, kc_Divider⟩, PySem.W.mg_of X G0 n_Divider, F7.binds (ps := ["self", "hyphens"]) fun _ _ _ _ _ _ us hl => match us, hl with | [_, _], _ => rfl⟩
  have F8 := fun_mk (st := s_letter_runs) l8 c8 k8
  have C8 : Cal l.prog w K mg base 2 "_letter_runs" ["text"] m_letter_runs := ⟨_, _, ok_letter_runs F8 T C1, PySem.W.mg_of X G0 a8, k8, F8.binds (ps := ["text"]) fun _ _ _ _ _ _ us hl => match us, hl with | [_], _ => rfl⟩
  have F9 := fun_mk (st := s_Divider_odd_places) l9 c9 k9
  have C9 : CalM l.prog w K mg base 1 (cs0.C "Divider") "_odd_places" ["self", "letters"] (m_Divider_odd_places cs0) := ⟨_, _, ok_Divider_odd_places F9 T , ⟨a9, i9, k9⟩, F9.binds (ps := ["self", "letters"]) fun _ _ _ _ _ _ us hl => match us, hl with | [_, _], _ => rfl⟩
  have F10 := fun_mk (st := s_Divider_points) l10 c10 k10
  have C10 : CalM l.prog w K mg base 3 (cs0.C "Divider") "points" ["self", "word"] (m_Divider_points cs0) := ⟨_, _, ok_Divider_points F10 T C8 C9 C6, ⟨a10, i10, k10⟩, F10.binds (ps := ["self", "word"]) fun _ _ _ _ _ _ us hl => match us, hl with | [_, _], _ => rfl⟩
  have F11 := fun_mk (st := s_points) l11 c11 k11
  have C11 : Cal l.prog w K mg base 6 "points" ["hyphens", "word"] (m_points cs0) := ⟨_, _, ok_points F11 T C10 C7, PySem.W.mg_of X G0 a11, k11, F11.binds (ps := ["hyphens", "word"]) fun _ _ _ _ _ _ us hl => match us, hl with | [_, _], _ => rfl⟩
  have F12 := fun_mk (st := s_divided) l12 c12 k12
  have C12 : Cal l.prog w K mg base 1 "divided" ["word", "places"] m_divided := ⟨_, _, ok_divided F12 T , PySem.W.mg_of X G0 a12, k12, F12.binds (ps := ["word", "places"]) fun _ _ _ _ _ _ us hl => match us, hl with | [_, _], _ => rfl⟩
  have F13 := fun_mk (st := s_law_numbers) l13 c13 k13
  have C13 : Cal l.prog w K mg base 1 "_law_numbers" ["script"] m_law_numbers := ⟨_, _, ok_law_numbers F13 T , PySem.W.mg_of X G0 a13, k13, F13.binds (ps := ["script"]) fun _ _ _ _ _ _ us hl => match us, hl with | [_], _ => rfl⟩
  have F14 := fun_mk (st := s_law_pick) l14 c14 k14
  have C14 : Cal l.prog w K mg base 1 "_law_pick" ["feed", "many"] m_law_pick := ⟨_, _, ok_law_pick F14 T , PySem.W.mg_of X G0 a14, k14, F14.binds (ps := ["feed", "many"]) fun _ _ _ _ _ _ us hl => match us, hl with | [_, _], _ => rfl⟩
  have F15 := fun_mk (st := s_law_signs) l15 c15 k15
  have C15 : Cal l.prog w K mg base 2 "_law_signs" ["feed"] m_law_signs := ⟨_, _, ok_law_signs F15 T C14, PySem.W.mg_of X G0 a15, k15, F15.binds (ps := ["feed"]) fun _ _ _ _ _ _ us hl => match us, hl with | [_], _ => rfl⟩
  have F16 := fun_mk (st := s_law_pattern) l16 c16 k16
  have C16 : Cal l.prog w K mg base 2 "_law_pattern" ["feed", "signs"] m_law_pattern := ⟨_, _, ok_law_pattern F16 T C14, PySem.W.mg_of X G0 a16, k16, F16.binds (ps := ["feed", "signs"]) fun _ _ _ _ _ _ us hl => match us, hl with | [_, _], _ => rfl⟩
  have F17 := fun_mk (st := s_law_patterns) l17 c17 k17
  have C17 : Cal l.prog w K mg base 3 "_law_patterns" ["feed", "most"] m_law_patterns := ⟨_, _, ok_law_patterns F17 T C14 C15 C16, PySem.W.mg_of X G0 a17, k17, F17.binds (ps := ["feed", "most"]) fun _ _ _ _ _ _ us hl => match us, hl with | [_, _], _ => rfl⟩
  have F18 := fun_mk (st := s_law_exceptions) l18 c18 k18
  have C18 : Cal l.prog w K mg base 2 "_law_exceptions" ["feed", "most"] m_law_exceptions := ⟨_, _, ok_law_exceptions F18 T C14, PySem.W.mg_of X G0 a18, k18, F18.binds (ps := ["feed", "most"]) fun _ _ _ _ _ _ us hl => match us, hl with | [_, _], _ => rfl⟩
  have F19 := fun_mk (st := s_law_same) l19 c19 k19
  have C19 : Cal l.prog w K mg base 4 "_law_same" ["actual", "due"] (m_law_same 4) := ok_law_same F19 T  (PySem.W.mg_of X G0 a19) k19 (F19.binds (ps := ["actual", "due"]) fun _ _ _ _ _ _ us hl => match us, hl with | [_, _], _ => rfl) 4
  have F20 := fun_mk (st := s_law_word) l20 c20 k20
  have C20 : Cal l.prog w K mg base 2 "_law_word" ["feed"] m_law_word := ⟨_, _, ok_law_word F20 T C14, PySem.W.mg_of X G0 a20, k20, F20.binds (ps := ["feed"]) fun _ _ _ _ _ _ us hl => match us, hl with | [_], _ => rfl⟩
  have F21 := fun_mk (st := s_law) l21 c21 k21
  exact ok_law F21 T C13 C14 C18 C17 C20 C11 C19 C12 (math cs0 kn) e0 hb sq hl
end G
open PySem PySem.W PyProof.Rows
set_option maxHeartbeats 0 in
theorem PySem.Challenge.cw_galleypapers_k35_points_of_any_string_holds : PySem.Challenge.rw_galleypapers_k35_points_of_any_string.Holds := by
  w_on; o_law; k_head; (case hw => w_witness2)
  k_fill
  refine M.walk_here (l := PySem.Challenge.rw_galleypapers_k35_points_of_any_string) rfl rfl (fun w h Y => PySem.W.kIn_of Y) ?F
  case F =>
    intro w mg fa h KX GG hmg
    refine' G.all_mk KX GG hmg ?a0 ?l0 ?c0 ?k0 ?a1 ?l1 ?c1 ?k1 ?a2 ?l2 ?c2 ?k2 ?a3 ?l3 ?c3 ?k3 ?a4 ?l4 ?c4 ?k4 ?a5 ?l5 ?c5 ?k5 ?a6 ?l6 ?c6 ?k6 ?a7 ?l7 ?c7 ?k7 ?a8 ?l8 ?c8 ?k8 ?a9 ?l9 ?c9 ?k9 ?a10 ?l10 ?c10 ?k10 ?a11 ?l11 ?c11 ?k11 ?a12 ?l12 ?c12 ?k12 ?a13 ?l13 ?c13 ?k13 ?a14 ?l14 ?c14 ?k14 ?a15 ?l15 ?c15 ?k15 ?a16 ?l16 ?c16 ?k16 ?a17 ?l17 ?c17 ?k17 ?a18 ?l18 ?c18 ?k18 ?a19 ?l19 ?c19 ?k19 ?a20 ?l20 ?c20 ?k20 ?a21 ?l21 ?c21 ?k21 ?z_int ?z_len ?z_max ?z_enumerate ?z_range ?z_min ?z_str ?z_isinstance ?z_bool ?z_list ?z_tuple ?x_MOST_LETTERS ?n_Divider ?pg_Divider ?hd_Divider ?po_Divider ?sa_Divider ?mk_Divider ?kc_Divider ?na_Divider_left ?na_Divider_right ?na_Divider_patterns ?na_Divider_longest ?na_Divider_exceptions ?i7 ?i9 ?i10
    (case n_Divider => k_is)
    (case a0 => k_is)
    (case l0 => k_is)
    (case c0 => k_is)
    (case k0 => k_is)
    (case a1 => k_is)
    (case l1 => k_is)
    (case c1 => k_is)
    (case k1 => k_is)
    (case a2 => k_is)
    (case l2 => k_is)
    (case c2 => k_is)
    (case k2 => k_is)
    (case a3 => k_is)
    (case l3 => k_is)
    (case c3 => k_is)
    (case k3 => k_is)
    (case a4 => k_is)
    (case l4 => k_is)
    (case c4 => k_is)
    (case k4 => k_is)
    (case a5 => k_is)
    (case l5 => k_is)
    (case c5 => k_is)
    (case k5 => k_is)
    (case a6 => k_is)
    (case l6 => k_is)
    (case c6 => k_is)
    (case k6 => k_is)
    (case a7 => k_is)
    (case l7 => k_is)
    (case c7 => k_is)
    (case k7 => k_is)
    (case a8 => k_is)
    (case l8 => k_is)
    (case c8 => k_is)
    (case k8 => k_is)
    (case a9 => k_is)
    (case l9 => k_is)
    (case c9 => k_is)
    (case k9 => k_is)
    (case a10 => k_is)
    (case l10 => k_is)
    (case c10 => k_is)
    (case k10 => k_is)
    (case a11 => k_is)
    (case l11 => k_is)
    (case c11 => k_is)
    (case k11 => k_is)
    (case a12 => k_is)
    (case l12 => k_is)
    (case c12 => k_is)
    (case k12 => k_is)
    (case a13 => k_is)
    (case l13 => k_is)
    (case c13 => k_is)
    (case k13 => k_is)
    (case a14 => k_is)
    (case l14 => k_is)
    (case c14 => k_is)
    (case k14 => k_is)
    (case a15 => k_is)
    (case l15 => k_is)
    (case c15 => k_is)
    (case k15 => k_is)
    (case a16 => k_is)
    (case l16 => k_is)
    (case c16 => k_is)
    (case k16 => k_is)
    (case a17 => k_is)
    (case l17 => k_is)
    (case c17 => k_is)
    (case k17 => k_is)
    (case a18 => k_is)
    (case l18 => k_is)
    (case c18 => k_is)
    (case k18 => k_is)
    (case a19 => k_is)
    (case l19 => k_is)
    (case c19 => k_is)
    (case k19 => k_is)
    (case a20 => k_is)
    (case l20 => k_is)
    (case c20 => k_is)
    (case k20 => k_is)
    (case a21 => k_is)
    (case l21 => k_is)
    (case c21 => k_is)
    (case k21 => k_is)
    (case z_int => k_is)
    (case z_len => k_is)
    (case z_max => k_is)
    (case z_enumerate => k_is)
    (case z_range => k_is)
    (case z_min => k_is)
    (case z_str => k_is)
    (case z_isinstance => k_is)
    (case z_bool => k_is)
    (case z_list => k_is)
    (case z_tuple => k_is)
    (case x_MOST_LETTERS => k_is)
    (case pg_Divider => k_is)
    (case hd_Divider => k_is)
    (case po_Divider => k_is)
    (case sa_Divider => k_is)
    (case mk_Divider => k_is)
    (case kc_Divider => k_is)
    (case na_Divider_left => k_is)
    (case na_Divider_right => k_is)
    (case na_Divider_patterns => k_is)
    (case na_Divider_longest => k_is)
    (case na_Divider_exceptions => k_is)
    (case i7 => k_is)
    (case i9 => k_is)
    (case i10 => k_is)

