import PyProof.Rows.All
import Wide.All
import OpenK.AllK
import Wide.FinOn
import HandS.ForMost
import HandS.ForExc
import HandS.Conv
import HandS.More
import HandS.IsInst
import HandS.Style
import KE.KDictCopyH
import KE.SortData
import HandS.SortKw
import KE.KExcSuper
import HandS.ExcInit
import HandS.ExcField
import HandS.ExcIs
import HandS.Nested
import HandS.WordsExc
import HandS.FStr
import KE.KExcIs
import HandS.StrMore
import HandS.Text
import PyProof.StrLawsAffix
import PyProof.StrLawsIn
import PyProof.StrLawsChain
import PyProof.StrLaws
import PyProof.StrLawsTight
import PyProof.ReprRoads
import HandS.EndBits
import HandS.Iter
import PyProof.Draws
import PyProof.EnumMake
import HandS.NoneIn
import HandS.ReplaceLit
import KE.GoesEnum
import HandS.List
import HandS.Dict
import HandS.WordsDict
import KE.KDictDisplayH
import HandS.TryOnly
import HandS.TupAny
import HandS.WideBits
import HandS.SetKeys
import HandS.Star
import HandS.DictComp
import HandS.CallLocal
import HandS.RaiseMore
import PyProof.ReprLen
import PySem.Challenge.RW_galleypapers_k70_edits_of_documents
set_option Elab.async false
set_option linter.all false
set_option maxRecDepth 100000
/-! Values as plain data, a store of cells that may be changed, and what a reading makes of them. -/
namespace M
open PySem L2

/-- plain data; ptr i: the i-th cell of the store -/
inductive D where
  | non | bl (b : Bool) | int (i : Int) | str (s : Str) | tup (ds : List D) | lst (ds : List D)
  | dct (kvs : List (Key × D)) | dcT (kvs : List (List Key × D)) | ptr (i : Nat) | scr (ns : List Int) | gtp (ds : List D) | fnc (a : Addr)
  deriving Inhabited
/-- a cell: a thing that may be changed -/
inductive Cell where
  | lst (ds : List D) | dct (kvs : List (Key × D)) | dcT (kvs : List (List Key × D)) | ins (C : Addr) (fs : List (Str × D))
abbrev Sto := List (Option Cell)
abbrev Sl := List (Option D)
/-- an error of an own class, with its attributes -/
structure Exn where
  C : Addr
  fs : List (Str × D)

/-- what can be read can still be read -/
structure Le (F F' : Hp) : Prop where
  lst : ∀ a xs, F a = some (.lst xs) → F' a = some (.lst xs)
  tup : ∀ a xs, F a = some (.tup xs) → F' a = some (.tup xs)
  dk : ∀ a kvs, Rd F a (.dK kvs) → Rd F' a (.dK kvs)
  dt : ∀ a kvs, Rd F a (.dT kvs) → Rd F' a (.dT kvs)
  sq : ∀ a xs, Rd F a (.lst xs) → Rd F' a (.lst xs)
theorem Le.refl (F : Hp) : Le F F := ⟨fun _ _ h => h, fun _ _ h => h, fun _ _ h => h, fun _ _ h => h, fun _ _ h => h⟩
theorem Le.trans {F G J : Hp} (a : Le F G) (b : Le G J) : Le F J :=
  ⟨fun x u h => b.lst x u (a.lst x u h), fun x u h => b.tup x u (a.tup x u h), fun x u h => b.dk x u (a.dk x u h), fun x u h => b.dt x u (a.dt x u h), fun x u h => b.sq x u (a.sq x u h)⟩
theorem rd_of {F G : Hp} (h : ∀ a u, F a = some u → G a = some u) {a : Addr} {u : HO} (r : Rd F a u) : Rd G a u := by
  rcases r with r | ⟨o, r⟩
  · exact .inl (h a _ r)
  · exact .inr ⟨o, h a _ r⟩
theorem Le.of {F G : Hp} (h : ∀ a u, F a = some u → G a = some u) : Le F G :=
  ⟨fun _ _ e => h _ _ e, fun _ _ e => h _ _ e, fun _ _ r => rd_of h r, fun _ _ r => rd_of h r, fun _ _ r => rd_of h r⟩
theorem Le.sqL {K : PySem.W.Frag} {F G : Hp} {a : Addr} {xs : List V} (l : Le F G) (h : SqL K F a xs) : SqL K G a xs := h.imp (l.sq a _) id

/-- a tuple of the module -/
def GT (K : PySem.W.Frag) (a : Addr) (xs : List V) : Prop := ∀ H : Hp, SqT K H a xs
mutual
inductive Rep (K : PySem.W.Frag) (F : Hp) (α : List Addr) : V → D → Prop
  | non : Rep K F α .non .non
  | bl (b : Bool) : Rep K F α (.bl b) (.bl b)
  | int (i : Int) : Rep K F α (.int i) (.int i)
  | str (s : Str) : Rep K F α (.str s) (.str s)
  | tup {a : Addr} {xs : List V} {ds : List D} : F a = some (.tup xs) → Reps K F α xs ds → Rep K F α (.ref a) (.tup ds)
  | lst {a : Addr} {xs : List V} {ds : List D} : F a = some (.lst xs) → Reps K F α xs ds → Rep K F α (.ref a) (.lst ds)
  | dct {a : Addr} {kvs : List (Key × V)} {ds : List (Key × D)} : Rd F a (.dK kvs) → kvs.map (·.1) = ds.map (·.1) → Reps K F α (kvs.map (·.2)) (ds.map (·.2)) → Rep K F α (.ref a) (.dct ds)
  | dcT {a : Addr} {kvs : List (List Key × V)} {ds : List (List Key × D)} : Rd F a (.dT kvs) → kvs.map (·.1) = ds.map (·.1) → Reps K F α (kvs.map (·.2)) (ds.map (·.2)) → Rep K F α (.ref a) (.dcT ds)
  | ptr {a : Addr} {i : Nat} : α[i]? = some a → Rep K F α (.ref a) (.ptr i)
  | scr {a : Addr} {ns : List Int} : SqL K F a (ns.map V.int) → Rep K F α (.ref a) (.scr ns)
  | gtp {a : Addr} {xs : List V} {ds : List D} : GT K a xs → Reps K F α xs ds → Rep K F α (.ref a) (.gtp ds)
  | fnc (a : Addr) : Rep K F α (.ref a) (.fnc a)
inductive Reps (K : PySem.W.Frag) (F : Hp) (α : List Addr) : List V → List D → Prop
  | nil : Reps K F α [] []
  | cons {v : V} {d : D} {vs : List V} {ds : List D} : Rep K F α v d → Reps K F α vs ds → Reps K F α (v :: vs) (d :: ds)
end
section
variable {K : PySem.W.Frag} {F F' : Hp} {α α' : List Addr}
def Pre (α α' : List Addr) : Prop := ∀ (i : Nat) a, α[i]? = some a → α'[i]? = some a
theorem Pre.refl (α : List Addr) : Pre α α := fun _ _ h => h
theorem Pre.trans {α β γ : List Addr} (a : Pre α β) (b : Pre β γ) : Pre α γ := fun i x h => b i x (a i x h)
theorem Pre.app (α β : List Addr) : Pre α (α ++ β) := fun i a h => by
  rw [List.getElem?_append_left (List.getElem?_eq_some_iff.mp h).1]; exact h
mutual
theorem Rep.mono (l : Le F F') (p : Pre α α') : ∀ {v : V} {d : D}, Rep K F α v d → Rep K F' α' v d
  | _, _, .non => .non
  | _, _, .bl b => .bl b
  | _, _, .int i => .int i
  | _, _, .str s => .str s
  | _, _, .tup h r => .tup (l.tup _ _ h) (Reps.mono l p r)
  | _, _, .lst h r => .lst (l.lst _ _ h) (Reps.mono l p r)
  | _, _, .dct h e r => .dct (l.dk _ _ h) e (Reps.mono l p r)
  | _, _, .dcT h e r => .dcT (l.dt _ _ h) e (Reps.mono l p r)
  | _, _, .ptr h => .ptr (p _ _ h)
  | _, _, .scr h => .scr (l.sqL h)
  | _, _, .gtp h r => .gtp h (Reps.mono l p r)
  | _, _, .fnc a => .fnc a
theorem Reps.mono (l : Le F F') (p : Pre α α') : ∀ {vs : List V} {ds : List D}, Reps K F α vs ds → Reps K F' α' vs ds
  | _, _, .nil => .nil
  | _, _, .cons h r => .cons (Rep.mono l p h) (Reps.mono l p r)
end
theorem Reps.length : ∀ {vs : List V} {ds : List D}, Reps K F α vs ds → vs.length = ds.length
  | _, _, .nil => rfl
  | _, _, .cons _ r => congrArg (· + 1) r.length
theorem Reps.get : ∀ {vs : List V} {ds : List D} {i : Nat} {d : D}, Reps K F α vs ds → ds[i]? = some d → ∃ v, vs[i]? = some v ∧ Rep K F α v d
  | _, _, _, _, .nil, e => by simp at e
  | _, _, 0, _, .cons h _, e => by simp at e; subst e; exact ⟨_, rfl, h⟩
  | _, _, i + 1, d, .cons _ r, e => by
    obtain ⟨v, h1, h2⟩ := Reps.get (i := i) (d := d) r (by simpa using e)
    exact ⟨v, by simpa using h1, h2⟩
theorem Reps.got : ∀ {vs : List V} {ds : List D} {i : Nat} {v : V}, Reps K F α vs ds → vs[i]? = some v → ∃ d, ds[i]? = some d ∧ Rep K F α v d
  | _, _, _, _, .nil, e => by simp at e
  | _, _, 0, _, .cons h _, e => by simp at e; subst e; exact ⟨_, rfl, h⟩
  | _, _, i + 1, d, .cons _ r, e => by
    obtain ⟨v, h1, h2⟩ := Reps.got (i := i) (v := d) r (by simpa using e)
    exact ⟨v, by simpa using h1, h2⟩
theorem Reps.append : ∀ {vs ws : List V} {ds es : List D}, Reps K F α vs ds → Reps K F α ws es → Reps K F α (vs ++ ws) (ds ++ es)
  | _, _, _, _, .nil, s => s
  | _, _, _, _, .cons h r, s => .cons h (r.append s)
theorem Reps.set {v : V} {d : D} (h : Rep K F α v d) : ∀ {vs : List V} {ds : List D} (i : Nat), Reps K F α vs ds → Reps K F α (vs.set i v) (ds.set i d)
  | _, _, _, .nil => .nil
  | _, _, 0, .cons _ r => .cons h r
  | _, _, i + 1, .cons g r => .cons g (Reps.set h i r)
theorem Reps.take : ∀ {vs : List V} {ds : List D} (i : Nat), Reps K F α vs ds → Reps K F α (vs.take i) (ds.take i)
  | _, _, 0, _ => .nil
  | _, _, _ + 1, .nil => .nil
  | _, _, i + 1, .cons g r => .cons g (Reps.take i r)
theorem Reps.drop : ∀ {vs : List V} {ds : List D} (i : Nat), Reps K F α vs ds → Reps K F α (vs.drop i) (ds.drop i)
  | _, _, 0, r => r
  | _, _, _ + 1, .nil => .nil
  | _, _, i + 1, .cons _ r => Reps.drop i r
theorem Reps.reverse : ∀ {vs : List V} {ds : List D}, Reps K F α vs ds → Reps K F α vs.reverse ds.reverse
  | _, _, .nil => .nil
  | _, _, .cons h r => by
    rw [List.reverse_cons, List.reverse_cons]
    exact r.reverse.append (.cons h .nil)
end

/-! ### the world: a store, its addresses, the still part, the heap -/
structure Ws where
  st : Sto
  al : List Addr
  F : Hp
  H : Hp
def Live (st : Sto) (i : Nat) : Prop := ∃ c, st[i]? = some (some c)
/-- a cell stands at a -/
inductive CellAt (K : PySem.W.Frag) (F : Hp) (α : List Addr) (H : Hp) (a : Addr) : Cell → Prop
  | lst {xs : List V} {ds : List D} : H a = some (.lst xs) → Reps K F α xs ds → CellAt K F α H a (.lst ds)
  | dct {kvs : List (Key × V)} {ds : List (Key × D)} : H a = some (.dK kvs) → kvs.map (·.1) = ds.map (·.1) → Reps K F α (kvs.map (·.2)) (ds.map (·.2)) → CellAt K F α H a (.dct ds)
  | dcT {kvs : List (List Key × V)} {ds : List (List Key × D)} : H a = some (.dT kvs) → kvs.map (·.1) = ds.map (·.1) → Reps K F α (kvs.map (·.2)) (ds.map (·.2)) → CellAt K F α H a (.dcT ds)
  | ins {C dx : Addr} {fs : List (Str × V)} {ds : List (Str × D)} : H a = some (.ins C dx fs) → fs.map (·.1) = ds.map (·.1) → Reps K F α (fs.map (·.2)) (ds.map (·.2)) → CellAt K F α H a (.ins C ds)
theorem CellAt.some {K : PySem.W.Frag} {F H : Hp} {α : List Addr} {a : Addr} {c : Cell} (h : CellAt K F α H a c) : H a ≠ none := by
  cases h with
  | lst h _ => rw [h]; exact Option.some_ne_none _
  | dct h _ _ => rw [h]; exact Option.some_ne_none _
  | dcT h _ _ => rw [h]; exact Option.some_ne_none _
  | ins h _ _ => rw [h]; exact Option.some_ne_none _
theorem CellAt.mono {K : PySem.W.Frag} {F F' H H' : Hp} {α α' : List Addr} {a : Addr} {c : Cell} (l : Le F F') (p : Pre α α') (e : H' a = H a) (h : CellAt K F α H a c) : CellAt K F' α' H' a c := by
  cases h with
  | lst h r => exact .lst (e.trans h) (r.mono l p)
  | dct h k r => exact .dct (e.trans h) k (r.mono l p)
  | dcT h k r => exact .dcT (e.trans h) k (r.mono l p)
  | ins h k r => exact .ins (e.trans h) k (r.mono l p)
structure Ok (K : PySem.W.Frag) (w : Ws) : Prop where
  len : w.al.length = w.st.length
  sub : ∀ a u, w.F a = some u → w.H a = some u
  own : ∀ (i : Nat) c, w.st[i]? = some (some c) → ∃ a, w.al[i]? = some a ∧ w.F a = none ∧ CellAt K w.F w.al w.H a c
  inj : ∀ (i j : Nat) a, Live w.st i → Live w.st j → w.al[i]? = some a → w.al[j]? = some a → i = j
/-- a is one of the cells -/
def Own (w : Ws) (a : Addr) : Prop := ∃ i, Live w.st i ∧ w.al[i]? = some a
structure Step (w w' : Ws) : Prop where
  pre : Pre w.al w'.al
  le : Le w.F w'.F
  frame : ∀ b o, w.H b = some o → ¬ Own w b → w'.H b = some o
  old : ∀ b, w.H b ≠ none → (∀ xs, w.H b ≠ some (.tup xs)) → ¬ Own w b → w'.F b = w.F b
  there : ∀ b, w.H b ≠ none → w'.H b ≠ none
  news : ∀ b, Own w' b → Own w b ∨ w.H b = none
theorem Step.refl (w : Ws) : Step w w := ⟨Pre.refl _, Le.refl _, fun _ _ h _ => h, fun _ _ _ _ => rfl, fun _ h => h, fun _ h => .inl h⟩
theorem Step.trans {w w1 w2 : Ws} (a : Step w w1) (b : Step w1 w2) : Step w w2 := by
  refine ⟨a.pre.trans b.pre, a.le.trans b.le, fun x o h n => ?_, fun x h t n => ?_, fun x h => b.there x (a.there x h), fun x h => ?_⟩
  · have n1 : ¬ Own w1 x := fun z => (a.news x z).elim n fun e => by rw [h] at e; cases e
    exact b.frame x o (a.frame x o h n) n1
  · have n1 : ¬ Own w1 x := fun z => (a.news x z).elim n h
    have t1 : ∀ xs, w1.H x ≠ some (.tup xs) := fun xs e => by
      cases q : w.H x with
      | none => exact h q
      | some o =>
        rw [a.frame x o q n] at e
        exact t xs (q.trans e)
    exact (b.old x (a.there x h) t1 n1).trans (a.old x h t n)
  · rcases b.news x h with z | z
    · exact a.news x z
    · refine .inr ?_
      cases q : w.H x with
      | none => rfl
      | some o => exact absurd z (a.there x (by rw [q]; exact Option.some_ne_none _))

/-! ### results -/
inductive R (τ : Type) where
  | ok (x : τ) (st : Sto)
  | exc (e : Exn) (st : Sto)
abbrev MM (τ : Type) := Option (R τ)
def ret {τ : Type} (x : τ) (st : Sto) : MM τ := some (.ok x st)
def bnd {τ υ : Type} (m : MM τ) (k : τ → Sto → MM υ) : MM υ := match m with
  | none => none
  | some (.ok x st) => k x st
  | some (.exc e st) => some (.exc e st)
theorem bnd_ret {τ υ : Type} (x : τ) (st : Sto) (k : τ → Sto → MM υ) : bnd (ret x st) k = k x st := rfl
theorem bnd_ok {τ υ : Type} (x : τ) (st : Sto) (k : τ → Sto → MM υ) : bnd (some (.ok x st)) k = k x st := rfl
theorem bnd_none {τ υ : Type} (k : τ → Sto → MM υ) : bnd none k = none := rfl
theorem bnd_assoc {τ υ φ : Type} (m : MM τ) (k : τ → Sto → MM υ) (j : υ → Sto → MM φ) : bnd (bnd m k) j = bnd m fun x st => bnd (k x st) j := by
  cases m with
  | none => rfl
  | some r => cases r <;> rfl
abbrev FE := Sl → Sto → MM D
abbrev FT := Sl → Sto → MM Bool
abbrev FA := Sl → Sto → MM (List D)
/-- how an error is borne -/
def RepX (K : PySem.W.Frag) (w : Ws) (e : Exn) : Option Addr → Prop
  | none => e.fs = []
  | some d => ∃ vs : List (Str × V), w.H d = some (.xd vs) ∧ w.F d = none ∧ vs.map (·.1) = e.fs.map (·.1) ∧ Reps K w.F w.al (vs.map (·.2)) (e.fs.map (·.2))
def Post {τ υ : Type} (K : PySem.W.Frag) (E : XK) (rp : Ws → υ → τ → Prop) (w : Ws) (m : MM τ) (Q : υ → Hp → Prop) : Prop := match m with
  | none => False
  | some (.ok x st) => ∀ (v : υ) (w' : Ws), w'.st = st → Ok K w' → Step w w' → rp w' v x → Q v w'.H
  | some (.exc e st) => ∀ (d : Option Addr) (w' : Ws), w'.st = st → Ok K w' → Step w w' → RepX K w' e d → E (.ref e.C) d w'.H
abbrev rD (K : PySem.W.Frag) : Ws → V → D → Prop := fun w v d => Rep K w.F w.al v d
abbrev rB : Ws → Bool → Bool → Prop := fun _ a b => a = b
abbrev rA (K : PySem.W.Frag) : Ws → List V → List D → Prop := fun w v d => Reps K w.F w.al v d
theorem Post.step {τ υ : Type} {K : PySem.W.Frag} {E : XK} {rp : Ws → υ → τ → Prop} {w w1 : Ws} {m : MM τ} {Q : υ → Hp → Prop} (s : Step w w1) (h : Post K E rp w m Q) : Post K E rp w1 m Q := by
  match m, h with
  | some (.ok x st), h => exact fun v w' e o t r => h v w' e o (s.trans t) r
  | some (.exc e st), h => exact fun d w' q o t r => h d w' q o (s.trans t) r
/-- what is wanted, weaker -/
theorem Post.imp {τ υ : Type} {K : PySem.W.Frag} {E : XK} {rp : Ws → υ → τ → Prop} {w : Ws} {m : MM τ} {Q Q' : υ → Hp → Prop} (h : Post K E rp w m Q) (k : ∀ v H, Q v H → Q' v H) : Post K E rp w m Q' := by
  match m, h with
  | some (.ok x st), h => exact fun v w' e o t r => k _ _ (h v w' e o t r)
  | some (.exc e st), h => exact fun d w' q o t r => h d w' q o t r
theorem post_ret {τ υ : Type} {K : PySem.W.Frag} {E : XK} {rp : Ws → υ → τ → Prop} {w : Ws} {x : τ} {Q : υ → Hp → Prop} (o : Ok K w) {v : υ} (r : rp w v x) (h : Post K E rp w (ret x w.st) Q) : Q v w.H := h v w rfl o (Step.refl w) r
structure Slots (K : PySem.W.Frag) (w : Ws) (sl : Sl) (σ : St) : Prop where
  len : σ.length = sl.length
  get : ∀ (i : Nat) d, sl[i]? = some (some d) → ∃ v, σ[i]? = some (some v) ∧ Rep K w.F w.al v d
theorem Slots.step {K : PySem.W.Frag} {w w' : Ws} {sl : Sl} {σ : St} (s : Step w w') (h : Slots K w sl σ) : Slots K w' sl σ := ⟨h.len, fun i d e => let ⟨v, a, b⟩ := h.get i d e; ⟨v, a, b.mono s.le s.pre⟩⟩
theorem Slots.set {K : PySem.W.Frag} {w : Ws} {sl : Sl} {σ : St} {i : Nat} {v : V} {d : D} (h : Slots K w sl σ) (r : Rep K w.F w.al v d) : Slots K w (sl.set i (some d)) (σ.set i (some v)) := by
  refine ⟨by rw [List.length_set, List.length_set]; exact h.len, fun j e q => ?_⟩
  by_cases hj : i = j
  · subst hj
    by_cases hi : i < sl.length
    · rw [List.getElem?_set_self hi] at q
      rw [List.getElem?_set_self (by rw [h.len]; exact hi)]
      cases q; exact ⟨_, rfl, r⟩
    · rw [List.getElem?_eq_none (by rw [List.length_set]; omega)] at q; cases q
  · rw [List.getElem?_set_ne hj] at q
    rw [List.getElem?_set_ne hj]
    exact h.get j e q
/-- the reading of an expression refines a plain function -/
def RefE (K : PySem.W.Frag) (E : XK) (t : TE) (f : FE) : Prop := ∀ sl σ w (Q : VK), Ok K w → Slots K w sl σ → Post K E (rD K) w (f sl w.st) Q → t σ w.H Q
def RefT (K : PySem.W.Frag) (E : XK) (t : TT) (f : FT) : Prop := ∀ sl σ w (Q : Bool → Hp → Prop), Ok K w → Slots K w sl σ → Post K E rB w (f sl w.st) Q → t σ w.H Q
def RefA (K : PySem.W.Frag) (E : XK) (t : TA) (f : FA) : Prop := ∀ sl σ w (Q : List V → Hp → Prop), Ok K w → Slots K w sl σ → Post K E (rA K) w (f sl w.st) Q → t σ w.H Q
/-- from a part to what goes on with it -/
theorem post_bnd {τ υ τ' υ' : Type} {K : PySem.W.Frag} {E : XK} {rp : Ws → υ → τ → Prop} {rp' : Ws → υ' → τ' → Prop} {w : Ws} {m : MM τ} {k : τ → Sto → MM τ'} {Q' : υ' → Hp → Prop} {Q : υ → Hp → Prop}
    (h : Post K E rp' w (bnd m k) Q') (g : ∀ v x w1, Ok K w1 → Step w w1 → rp w1 v x → Post K E rp' w1 (k x w1.st) Q' → Q v w1.H) : Post K E rp w m Q := by
  match m, h with
  | some (.ok x st), h => exact fun v w1 e o s r => g v x w1 o s r (Post.step s (by rw [e]; exact h))
  | some (.exc e st), h => exact h
end M

namespace M
open PySem L2
section
variable {K : PySem.W.Frag} {w : Ws}
theorem Ok.H_of_F (o : Ok K w) {a : Addr} (h : w.H a = none) : w.F a = none := by
  cases q : w.F a with
  | none => rfl
  | some u => rw [o.sub a u q] at h; cases h
theorem Ok.own_H (o : Ok K w) {a : Addr} (h : Own w a) : w.H a ≠ none ∧ w.F a = none := by
  obtain ⟨i, ⟨c, hc⟩, e⟩ := h
  obtain ⟨b, e2, f, ca⟩ := o.own i c hc
  rw [e] at e2; cases e2
  exact ⟨ca.some, f⟩
/-- a new thing that stays as it is -/
def Ws.newV (w : Ws) (p : Addr) (o : HO) : Ws := ⟨w.st, w.al, upd w.F p o, upd w.H p o⟩
theorem step_newV (o : Ok K w) {p : Addr} (hp : w.H p = none) (u : HO) : Step w (w.newV p u) := by
  refine ⟨Pre.refl _, Le.of fun a x e => ?_, fun b x e _ => ?_, fun b e _ _ => ?_, fun b e => ?_, fun b h => .inl h⟩
  · show upd w.F p u a = some x
    rw [upd_ne (ne_of_none e (o.H_of_F hp))]; exact e
  · show upd w.H p u b = some x
    rw [upd_ne (ne_of_none e hp)]; exact e
  · show upd w.F p u b = w.F b
    exact upd_ne fun z => e (by rw [z]; exact hp)
  · show upd w.H p u b ≠ none
    by_cases z : b = p
    · subst z; rw [upd_same]; exact Option.some_ne_none _
    · rw [upd_ne z]; exact e
theorem ok_newV (o : Ok K w) {p : Addr} (hp : w.H p = none) (u : HO) : Ok K (w.newV p u) := by
  have s := step_newV o hp u
  refine ⟨o.len, fun a x e => ?_, fun i c h => ?_, o.inj⟩
  · by_cases z : a = p
    · subst z
      have e' : upd w.F a u a = some x := e
      rw [upd_same] at e'
      show upd w.H a u a = some x
      rw [upd_same]; exact e'
    · have e' : upd w.F p u a = some x := e
      rw [upd_ne z] at e'
      show upd w.H p u a = some x
      rw [upd_ne z]; exact o.sub _ _ e'
  · obtain ⟨a, e, f, ca⟩ := o.own i c h
    have z : a ≠ p := fun q => ca.some (by rw [q]; exact hp)
    exact ⟨a, e, (show upd w.F p u a = none by rw [upd_ne z]; exact f), ca.mono s.le s.pre (show upd w.H p u a = w.H a from upd_ne z)⟩
/-- a new cell -/
def Ws.newC (w : Ws) (p : Addr) (o : HO) (c : Cell) : Ws := ⟨w.st ++ [some c], w.al ++ [p], w.F, upd w.H p o⟩
theorem live_app {st : Sto} {c : Option Cell} {i : Nat} (h : Live (st ++ [c]) i) : Live st i ∨ i = st.length := by
  obtain ⟨d, e⟩ := h
  by_cases z : i < st.length
  · rw [List.getElem?_append_left z] at e; exact .inl ⟨d, e⟩
  · refine .inr ?_
    have q := (List.getElem?_eq_some_iff.mp e).1
    rw [List.length_append, List.length_singleton] at q
    omega
theorem Live.lt {st : Sto} {i : Nat} (h : Live st i) : i < st.length := let ⟨_, e⟩ := h; (List.getElem?_eq_some_iff.mp e).1
theorem step_newC (o : Ok K w) {p : Addr} (hp : w.H p = none) (u : HO) (c : Cell) : Step w (w.newC p u c) := by
  refine ⟨Pre.app _ _, Le.refl _, fun b x e _ => ?_, fun b e _ _ => rfl, fun b e => ?_, fun b h => ?_⟩
  · show upd w.H p u b = some x
    rw [upd_ne (ne_of_none e hp)]; exact e
  · show upd w.H p u b ≠ none
    by_cases z : b = p
    · subst z; rw [upd_same]; exact Option.some_ne_none _
    · rw [upd_ne z]; exact e
  · obtain ⟨i, l, e⟩ := h
    have e' : (w.al ++ [p])[i]? = some b := e
    rcases live_app l with z | z
    · rw [List.getElem?_append_left (by rw [o.len]; exact z.lt)] at e'
      exact .inl ⟨i, z, e'⟩
    · rw [List.getElem?_append_right (by rw [o.len, z]; exact Nat.le_refl _), o.len, z, Nat.sub_self] at e'
      cases e'
      exact .inr hp
theorem ok_newC (o : Ok K w) {p : Addr} (hp : w.H p = none) {u : HO} {c : Cell} (hc : CellAt K w.F (w.al ++ [p]) (upd w.H p u) p c) : Ok K (w.newC p u c) := by
  have s := step_newC o hp u c
  have old : ∀ (i : Nat) a, Live w.st i → (w.al ++ [p])[i]? = some a → w.al[i]? = some a := fun i a l e => by
    rw [List.getElem?_append_left (by rw [o.len]; exact l.lt)] at e; exact e
  have new : ∀ (i : Nat) a, i = w.st.length → (w.al ++ [p])[i]? = some a → a = p := fun i a l e => by
    rw [List.getElem?_append_right (by rw [o.len, l]; exact Nat.le_refl _), o.len, l, Nat.sub_self] at e
    cases e; rfl
  have np : ∀ i, Live w.st i → w.al[i]? ≠ some p := fun i l e => (o.own_H ⟨i, l, e⟩).1 hp
  refine ⟨?_, fun a x e => ?_, fun i d h => ?_, fun i j a li lj ei ej => ?_⟩
  · show (w.al ++ [p]).length = (w.st ++ [some c]).length
    rw [List.length_append, List.length_append, o.len]; rfl
  · show upd w.H p u a = some x
    rw [upd_ne (ne_of_none e (o.H_of_F hp))]; exact o.sub _ _ e
  · have h' : (w.st ++ [some c])[i]? = some (some d) := h
    by_cases z : i < w.st.length
    · rw [List.getElem?_append_left z] at h'
      obtain ⟨a, e, f, ca⟩ := o.own i d h'
      have na : a ≠ p := fun q => ca.some (by rw [q]; exact hp)
      exact ⟨a, s.pre _ _ e, f, ca.mono s.le s.pre (show upd w.H p u a = w.H a from upd_ne na)⟩
    · have q := (List.getElem?_eq_some_iff.mp h').1
      rw [List.length_append, List.length_singleton] at q
      have ei : i = w.st.length := by omega
      subst ei
      rw [List.getElem?_append_right (Nat.le_refl _), Nat.sub_self] at h'
      cases h'
      refine ⟨p, ?_, o.H_of_F hp, hc⟩
      show (w.al ++ [p])[w.st.length]? = some p
      rw [List.getElem?_append_right (by rw [o.len]; exact Nat.le_refl _), o.len, Nat.sub_self]; rfl
  · rcases live_app li with zi | zi <;> rcases live_app lj with zj | zj
    · exact o.inj i j a zi zj (old i a zi ei) (old j a zj ej)
    · exact absurd (by rw [← new j a zj ej]; exact old i a zi ei) (np i zi)
    · exact absurd (by rw [← new i a zi ei]; exact old j a zj ej) (np j zj)
    · rw [zi, zj]
/-- a cell is written -/
def Ws.put (w : Ws) (i : Nat) (a : Addr) (o : HO) (c : Cell) : Ws := ⟨w.st.set i (some c), w.al, w.F, upd w.H a o⟩
theorem live_set {st : Sto} {i j : Nat} {c : Cell} (li : Live st i) : Live (st.set i (some c)) j → Live st j := fun ⟨d, e⟩ => by
  by_cases z : i = j
  · subst z; exact li
  · rw [List.getElem?_set_ne z] at e; exact ⟨d, e⟩
theorem step_put {i : Nat} {a : Addr} (o : Ok K w) (l : Live w.st i) (ea : w.al[i]? = some a) (u : HO) (c : Cell) : Step w (w.put i a u c) := by
  have ow : Own w a := ⟨i, l, ea⟩
  refine ⟨Pre.refl _, Le.refl _, fun b x e n => ?_, fun b e _ _ => rfl, fun b e => ?_, fun b ⟨j, lj, e⟩ => .inl ⟨j, live_set l lj, e⟩⟩
  · show upd w.H a u b = some x
    rw [upd_ne fun z => n (by rw [z]; exact ow)]; exact e
  · show upd w.H a u b ≠ none
    by_cases z : b = a
    · subst z; rw [upd_same]; exact Option.some_ne_none _
    · rw [upd_ne z]; exact e
theorem ok_put {i : Nat} {a : Addr} (o : Ok K w) (l : Live w.st i) (ea : w.al[i]? = some a) {u : HO} {c : Cell} (hc : CellAt K w.F w.al (upd w.H a u) a c) : Ok K (w.put i a u c) := by
  have ow : Own w a := ⟨i, l, ea⟩
  obtain ⟨hH, hF⟩ := o.own_H ow
  refine ⟨?_, fun b x e => ?_, fun j d h => ?_, fun j k b lj lk ej ek => o.inj j k b (live_set l lj) (live_set l lk) ej ek⟩
  · show w.al.length = (w.st.set i (some c)).length
    rw [List.length_set]; exact o.len
  · show upd w.H a u b = some x
    rw [upd_ne (ne_of_none e hF)]; exact o.sub _ _ e
  · have h' : (w.st.set i (some c))[j]? = some (some d) := h
    by_cases z : i = j
    · subst z
      rw [List.getElem?_set_self l.lt] at h'
      cases h'
      exact ⟨a, ea, hF, hc⟩
    · rw [List.getElem?_set_ne z] at h'
      obtain ⟨b, e, f, cb⟩ := o.own j d h'
      have nb : b ≠ a := fun q => z (o.inj i j a l ⟨d, h'⟩ ea (by rw [← q]; exact e))
      exact ⟨b, e, f, cb.mono (Le.refl _) (Pre.refl _) (show upd w.H a u b = w.H b from upd_ne nb)⟩
/-- a cell is let be: it will not be changed any more -/
def Ws.frz (w : Ws) (i : Nat) (a : Addr) (o : HO) : Ws := ⟨w.st.set i none, w.al, upd w.F a o, w.H⟩
theorem live_none {st : Sto} {i j : Nat} (h : Live (st.set i none) j) : Live st j ∧ i ≠ j := by
  obtain ⟨d, e⟩ := h
  by_cases z : i = j
  · subst z
    by_cases q : i < st.length
    · rw [List.getElem?_set_self q] at e; cases e
    · rw [List.getElem?_eq_none (by rw [List.length_set]; omega)] at e; cases e
  · rw [List.getElem?_set_ne z] at e; exact ⟨⟨d, e⟩, z⟩
theorem step_frz {i : Nat} {a : Addr} {u : HO} (o : Ok K w) (l : Live w.st i) (ea : w.al[i]? = some a) : Step w (w.frz i a u) := by
  have ow : Own w a := ⟨i, l, ea⟩
  obtain ⟨hH, hF⟩ := o.own_H ow
  refine ⟨Pre.refl _, Le.of fun b x e => ?_, fun b x e _ => e, fun b e _ n => ?_, fun b e => e, fun b ⟨j, lj, e⟩ => .inl ⟨j, (live_none lj).1, e⟩⟩
  · show upd w.F a u b = some x
    rw [upd_ne (ne_of_none e hF)]; exact e
  · show upd w.F a u b = w.F b
    exact upd_ne fun z => n (by rw [z]; exact ow)
theorem ok_frz {i : Nat} {a : Addr} {u : HO} (o : Ok K w) (l : Live w.st i) (ea : w.al[i]? = some a) (hu : w.H a = some u) : Ok K (w.frz i a u) := by
  have ow : Own w a := ⟨i, l, ea⟩
  obtain ⟨hH, hF⟩ := o.own_H ow
  have s := step_frz (u := u) o l ea
  refine ⟨?_, fun b x e => ?_, fun j d h => ?_, fun j k b lj lk ej ek => o.inj j k b (live_none lj).1 (live_none lk).1 ej ek⟩
  · show w.al.length = (w.st.set i none).length
    rw [List.length_set]; exact o.len
  · have e' : upd w.F a u b = some x := e
    by_cases z : b = a
    · subst z; rw [upd_same] at e'; rw [← e']; exact hu
    · rw [upd_ne z] at e'; exact o.sub _ _ e'
  · obtain ⟨lj, z⟩ := live_none ⟨d, h⟩
    have h' : (w.st.set i none)[j]? = some (some d) := h
    rw [List.getElem?_set_ne z] at h'
    obtain ⟨b, e, f, cb⟩ := o.own j d h'
    have nb : b ≠ a := fun q => z (o.inj i j a l ⟨d, h'⟩ ea (by rw [← q]; exact e))
    exact ⟨b, e, (show upd w.F a u b = none by rw [upd_ne nb]; exact f), cb.mono s.le s.pre rfl⟩
end

theorem CellAt.notTup {F H : Hp} {α : List Addr} {a : Addr} {c : Cell} {K : PySem.W.Frag} (h : CellAt K F α H a c) : ∀ xs : List V, H a ≠ Option.some (HO.tup xs) := fun xs e => by
  cases h with
  | lst h _ => rw [h] at e; cases e
  | dct h _ _ => rw [h] at e; cases e
  | dcT h _ _ => rw [h] at e; cases e
  | ins h _ _ => rw [h] at e; cases e
/-- a tuple that stands in the heap may be read -/
def Ws.learn (w : Ws) (p : Addr) (xs : List V) : Ws := ⟨w.st, w.al, upd w.F p (.tup xs), w.H⟩
theorem learn_sub {K : PySem.W.Frag} {w : Ws} (o : Ok K w) {p : Addr} {xs : List V} (hp : w.H p = some (.tup xs)) : ∀ a u, w.F a = some u → upd w.F p (.tup xs) a = some u := fun a u e => by
  by_cases z : a = p
  · subst z
    rw [upd_same]
    have := o.sub _ _ e
    rw [hp] at this
    exact this
  · rw [upd_ne z]; exact e
theorem ok_learn {K : PySem.W.Frag} {w : Ws} (o : Ok K w) {p : Addr} {xs : List V} (hp : w.H p = some (.tup xs)) : Ok K (w.learn p xs) := by
  refine ⟨o.len, fun a x e => ?_, fun i c h => ?_, o.inj⟩
  · have e' : upd w.F p (.tup xs) a = some x := e
    by_cases z : a = p
    · subst z; rw [upd_same] at e'; rw [← e']; exact hp
    · rw [upd_ne z] at e'; exact o.sub _ _ e'
  · obtain ⟨a, e, f, ca⟩ := o.own i c h
    have na : a ≠ p := fun z => ca.notTup xs (by rw [z]; exact hp)
    exact ⟨a, e, (show upd w.F p _ a = none by rw [upd_ne na]; exact f), ca.mono (Le.of (learn_sub o hp)) (Pre.refl _) rfl⟩
theorem step_learn {K : PySem.W.Frag} {w : Ws} (o : Ok K w) {p : Addr} {xs : List V} (hp : w.H p = some (.tup xs)) : Step w (w.learn p xs) := by
  refine ⟨Pre.refl _, Le.of (learn_sub o hp), fun _ _ h _ => h, fun b e t _ => ?_, fun _ h => h, fun _ h => .inl h⟩
  show upd w.F p (.tup xs) b = w.F b
  exact upd_ne fun z => t xs (by rw [z]; exact hp)
/-! ### what a datum tells of its value -/
section
variable {K : PySem.W.Frag} {F : Hp} {α : List Addr} {v : V}
theorem Rep.int_inv {i : Int} (h : Rep K F α v (.int i)) : v = .int i := by cases h; rfl
theorem Rep.bl_inv {b : Bool} (h : Rep K F α v (.bl b)) : v = .bl b := by cases h; rfl
theorem Rep.str_inv {s : Str} (h : Rep K F α v (.str s)) : v = .str s := by cases h; rfl
theorem Rep.non_inv (h : Rep K F α v .non) : v = .non := by cases h; rfl
theorem Rep.tup_inv {ds : List D} (h : Rep K F α v (.tup ds)) : ∃ a xs, v = .ref a ∧ F a = some (.tup xs) ∧ Reps K F α xs ds := by cases h with | tup h r => exact ⟨_, _, rfl, h, r⟩
theorem Rep.lst_inv {ds : List D} (h : Rep K F α v (.lst ds)) : ∃ a xs, v = .ref a ∧ F a = some (.lst xs) ∧ Reps K F α xs ds := by cases h with | lst h r => exact ⟨_, _, rfl, h, r⟩
theorem Rep.gtp_inv {ds : List D} (h : Rep K F α v (.gtp ds)) : ∃ a xs, v = .ref a ∧ GT K a xs ∧ Reps K F α xs ds := by cases h with | gtp h r => exact ⟨_, _, rfl, h, r⟩
theorem Rep.scr_inv {ns : List Int} (h : Rep K F α v (.scr ns)) : ∃ a, v = .ref a ∧ SqL K F a (ns.map V.int) := by cases h with | scr h => exact ⟨_, rfl, h⟩
theorem Rep.ptr_inv {i : Nat} (h : Rep K F α v (.ptr i)) : ∃ a, v = .ref a ∧ α[i]? = some a := by cases h with | ptr h => exact ⟨_, rfl, h⟩
theorem Rep.dct_inv {ds : List (Key × D)} (h : Rep K F α v (.dct ds)) : ∃ a kvs, v = .ref a ∧ Rd F a (.dK kvs) ∧ kvs.map (·.1) = ds.map (·.1) ∧ Reps K F α (kvs.map (·.2)) (ds.map (·.2)) := by cases h with | dct h e r => exact ⟨_, _, rfl, h, e, r⟩
theorem Rep.dcT_inv {ds : List (List Key × D)} (h : Rep K F α v (.dcT ds)) : ∃ a kvs, v = .ref a ∧ Rd F a (.dT kvs) ∧ kvs.map (·.1) = ds.map (·.1) ∧ Reps K F α (kvs.map (·.2)) (ds.map (·.2)) := by cases h with | dcT h e r => exact ⟨_, _, rfl, h, e, r⟩
theorem reps_ints : ∀ ns : List Int, Reps K F α (ns.map V.int) (ns.map D.int)
  | [] => .nil
  | n :: r => .cons (.int n) (reps_ints r)
end
def cellL (st : Sto) (i : Nat) : Option (List D) := match st[i]? with
  | some (some (.lst ds)) => some ds
  | _ => none
theorem cellL_some {st : Sto} {i : Nat} {ds : List D} (h : cellL st i = some ds) : st[i]? = some (some (.lst ds)) := by
  unfold cellL at h
  split at h
  · rename_i e q
    cases h; exact q
  · cases h
/-- the items of a list: still, or of a cell -/
def lstOf (st : Sto) : D → Option (List D)
  | .lst ds => some ds
  | .scr ns => some (ns.map .int)
  | .ptr i => cellL st i
  | _ => none
theorem cell_at {K : PySem.W.Frag} {w : Ws} (o : Ok K w) {v : V} {i : Nat} {c : Cell} (r : Rep K w.F w.al v (.ptr i)) (h : w.st[i]? = some (some c)) : ∃ a, v = .ref a ∧ w.al[i]? = some a ∧ w.F a = none ∧ CellAt K w.F w.al w.H a c := by
  obtain ⟨a, e, ha⟩ := r.ptr_inv
  obtain ⟨b, hb, f, ca⟩ := o.own i c h
  rw [ha] at hb; cases hb
  exact ⟨a, e, ha, f, ca⟩
theorem sub_sqL {K : PySem.W.Frag} {w : Ws} (o : Ok K w) {a : Addr} {xs : List V} (h : SqL K w.F a xs) : SqL K w.H a xs := h.imp (rd_of o.sub) id
theorem lstOf_rep {K : PySem.W.Frag} {w : Ws} (o : Ok K w) {v : V} {d : D} {ds : List D} (r : Rep K w.F w.al v d) (h : lstOf w.st d = some ds) : ∃ a xs, v = .ref a ∧ SqL K w.H a xs ∧ Reps K w.F w.al xs ds := by
  cases d with
  | lst es =>
    obtain ⟨a, xs, e, f, rs⟩ := r.lst_inv
    cases h
    exact ⟨a, xs, e, SqL.of (o.sub _ _ f), rs⟩
  | scr ns =>
    obtain ⟨a, e, s⟩ := r.scr_inv
    cases h
    exact ⟨a, _, e, sub_sqL o s, reps_ints ns⟩
  | ptr i =>
    obtain ⟨a, e, _, _, ca⟩ := cell_at o r (cellL_some h)
    cases ca with
    | lst hx rs => exact ⟨a, _, e, SqL.of hx, rs⟩
  | _ => cases h
/-- .. one that stands in the heap by itself -/
def lstOn (st : Sto) : D → Option (List D)
  | .lst ds => some ds
  | .ptr i => cellL st i
  | _ => none
theorem lstOn_rep {K : PySem.W.Frag} {w : Ws} (o : Ok K w) {v : V} {d : D} {ds : List D} (r : Rep K w.F w.al v d) (h : lstOn w.st d = some ds) : ∃ a xs, v = .ref a ∧ w.H a = some (.lst xs) ∧ Reps K w.F w.al xs ds := by
  cases d with
  | lst es =>
    obtain ⟨a, xs, e, f, rs⟩ := r.lst_inv
    cases h
    exact ⟨a, xs, e, o.sub _ _ f, rs⟩
  | ptr i =>
    obtain ⟨a, e, _, _, ca⟩ := cell_at o r (cellL_some h)
    cases ca with
    | lst hx rs => exact ⟨a, _, e, hx, rs⟩
  | _ => cases h
end M

namespace M
open PySem L2
/-! ### judgements -/
structure ME (X : Cx) (E : XK) (e : Expr) (f : FE) : Prop where
  ex : ∃ t, PE X e t ∧ RefE X.K E t f
structure MT (X : Cx) (E : XK) (e : Expr) (f : FT) : Prop where
  ex : ∃ t, PT X e t ∧ RefT X.K E t f
structure MW (X : Cx) (E : XK) (e : Expr) (f : FT) : Prop where
  ex : ∃ t, PW X e t ∧ RefT X.K E t f
structure MA (X : Cx) (E : XK) (es : List Expr) (f : FA) : Prop where
  ex : ∃ t, PA X es t ∧ RefA X.K E t f
def lift {τ : Type} (o : Option τ) (st : Sto) : MM τ := match o with
  | some x => ret x st
  | none => none
theorem lift_some {τ : Type} (x : τ) (st : Sto) : lift (some x) st = ret x st := rfl
theorem lift_none {τ : Type} (st : Sto) : lift (none : Option τ) st = none := rfl
def gv (sl : Sl) (i : Nat) : Option D := match sl[i]? with
  | some (some d) => some d
  | _ => none
theorem gv_some {sl : Sl} {i : Nat} {d : D} (h : gv sl i = some d) : sl[i]? = some (some d) := by
  unfold gv at h
  split at h
  · rename_i e q; cases h; exact q
  · cases h
def mVar (i : Nat) : FE := fun sl st => lift (gv sl i) st
def mC (d : D) : FE := fun _ st => ret d st
section
variable {X : Cx} {E : XK} {K : PySem.W.Frag} {a b c e : Expr} {fa fb fc : FE} {ta tb tc : TE} {pos : Pos}
theorem post_lift {τ υ : Type} {rp : Ws → υ → τ → Prop} {w : Ws} {o : Option τ} {Q : υ → Hp → Prop} (h : Post K E rp w (lift o w.st) Q) : ∃ x, o = some x ∧ Post K E rp w (ret x w.st) Q := by
  cases o with
  | none => exact h.elim
  | some x => exact ⟨x, rfl, h⟩
theorem ref_var (i : Nat) : RefE K E (tVar i) (mVar i) := fun sl σ w Q o s h => by
  obtain ⟨d, e, h⟩ := post_lift h
  obtain ⟨v, h1, h2⟩ := s.get i d (gv_some e)
  exact ⟨v, h1, post_ret o h2 h⟩
theorem me_var (i : Nat) {x : Str} (hN : X.N[i]? = some x := by rfl) (hv : Vis X.env.scope x := by first | exact Or.inl rfl | exact Or.inr (Or.inl rfl) | exact Or.inr (Or.inr rfl)) (hd : (x == ("__debug__" : Str)) = false := by decide)
    (hcd : (x == ("__classdict__" : Str)) = false := by decide) : ME X E (.Name x pos) (mVar i) := ⟨tVar i, pe_var hN hv hd hcd, ref_var i⟩
theorem ref_c {v : V} {d : D} (h : ∀ F α, Rep K F α v d) : RefE K E (tC v) (mC d) := fun sl σ w Q o s q => post_ret o (h _ _) q
theorem me_int {i : Int} {j} : ME X E (.Constant (.int i) j pos) (mC (.int i)) := ⟨_, pe_int, ref_c fun _ _ => .int i⟩
theorem me_bl {b : Bool} {j} : ME X E (.Constant (.bool b) j pos) (mC (.bl b)) := ⟨_, pe_bl, ref_c fun _ _ => .bl b⟩
theorem me_non {j} : ME X E (.Constant .none j pos) (mC .non) := ⟨_, pe_non, ref_c fun _ _ => .non⟩
theorem me_str {x : Str} {j} : ME X E (.Constant (.str x) j pos) (mC (.str x)) := ⟨_, pe_str, ref_c fun _ _ => .str x⟩
theorem me_globI {x : Str} {i : Int} {u : Value} (hg : Gl X x) (hm : X.mg x = some u) (r : RelV (.int i) u) (hd : (x == ("__debug__" : Str)) = false := by decide) : ME X E (.Name x pos) (mC (.int i)) := ⟨_, pe_glob hg hm r hd, ref_c fun _ _ => .int i⟩
theorem me_globS {x : Str} {i : Str} {u : Value} (hg : Gl X x) (hm : X.mg x = some u) (r : RelV (.str i) u) (hd : (x == ("__debug__" : Str)) = false := by decide) : ME X E (.Name x pos) (mC (.str i)) := ⟨_, pe_glob hg hm r hd, ref_c fun _ _ => .str i⟩

/-! ### two operands -/
def mBin (g : Sto → D → D → MM D) (fa fb : FE) : FE := fun sl st => bnd (fa sl st) fun x st => bnd (fb sl st) fun y st => g st x y
def mUn (g : Sto → D → MM D) (fa : FE) : FE := fun sl st => bnd (fa sl st) fun x st => g st x
def Rf2 (K : PySem.W.Frag) (E : XK) (r : R2) (g : Sto → D → D → MM D) : Prop := ∀ x y dx dy w (Q : VK), Ok K w → Rep K w.F w.al x dx → Rep K w.F w.al y dy → Post K E (rD K) w (g w.st dx dy) Q → r x y w.H Q
def Rf1 (K : PySem.W.Frag) (E : XK) (r : V → Hp → VK → Prop) (g : Sto → D → MM D) : Prop := ∀ x dx w (Q : VK), Ok K w → Rep K w.F w.al x dx → Post K E (rD K) w (g w.st dx) Q → r x w.H Q
theorem ref_bin {r : R2} {g : Sto → D → D → MM D} (hr : Rf2 K E r g) (ha : RefE K E ta fa) (hb : RefE K E tb fb) : RefE K E (tOp r ta tb) (mBin g fa fb) := fun sl σ w Q o s h => by
  refine ha sl σ w _ o s (post_bnd h fun x dx w1 o1 s1 rx h1 => ?_)
  refine hb sl σ w1 _ o1 (s.step s1) (post_bnd h1 fun y dy w2 o2 s2 ry h2 => ?_)
  exact hr x y dx dy w2 Q o2 (rx.mono s2.le s2.pre) ry h2
theorem ref_un {r : V → Hp → VK → Prop} {g : Sto → D → MM D} (hr : Rf1 K E r g) (ha : RefE K E ta fa) : RefE K E (tUn r ta) (mUn g fa) := fun sl σ w Q o s h => by
  refine ha sl σ w _ o s (post_bnd h fun x dx w1 o1 s1 rx h1 => ?_)
  exact hr x dx w1 Q o1 rx h1
theorem me_bin {op : Operator} {r : R2} {g : Sto → D → D → MM D} (ho : OpR X (binaryOp op) r) (hr : Rf2 X.K E r g) (ha : ME X E a fa) (hb : ME X E b fb) : ME X E (.BinOp a op b pos) (mBin g fa fb) := by
  obtain ⟨ta, p, q⟩ := ha.ex
  obtain ⟨tb, p', q'⟩ := hb.ex
  exact ⟨_, pe_op ho p p', ref_bin hr q q'⟩
theorem me_un {op : UnaryOp} {r : V → Hp → VK → Prop} {g : Sto → D → MM D} (ho : UnR X (unaryOp op) r) (hr : Rf1 X.K E r g) (ha : ME X E a fa) : ME X E (.UnaryOp op a pos) (mUn g fa) := by
  obtain ⟨ta, p, q⟩ := ha.ex
  exact ⟨_, pe_un ho p, ref_un hr q⟩
theorem me_cmp {op : CmpOp} {r : R2} {g : Sto → D → D → MM D} (ho : OpR X (compareOp op) r) (hr : Rf2 X.K E r g) (ha : ME X E a fa) (hb : ME X E b fb) (hm : behindInMarks op b = false) : ME X E (.Compare a [op] [b] pos) (mBin g fa fb) := by
  obtain ⟨ta, p, q⟩ := ha.ex
  obtain ⟨tb, p', q'⟩ := hb.ex
  exact ⟨_, pe_cmpR ho p p' hm, ref_bin hr q q'⟩
/-- a value that is True or False, as a test -/
def mB (f : FE) : FT := fun sl st => bnd (f sl st) fun x st => match x with
  | .bl c => ret c st
  | _ => none
theorem ref_B (ha : RefE K E ta fa) : RefT K E (tB ta) (mB fa) := fun sl σ w Q o s h => by
  refine ha sl σ w _ o s (post_bnd h fun x dx w1 o1 s1 rx h1 => ?_)
  cases dx with
  | bl c => exact ⟨c, rx.bl_inv, post_ret o1 rfl h1⟩
  | _ => exact h1.elim
theorem ref_test (ha : RefE K E ta fa) : RefT K E (tTest ta) (mB fa) := fun sl σ w Q o s h => by
  refine ha sl σ w _ o s (post_bnd h fun x dx w1 o1 s1 rx h1 => ?_)
  cases dx with
  | bl c => exact ⟨c, rx.bl_inv, post_ret o1 rfl h1⟩
  | _ => exact h1.elim
theorem mt_val (h : ME X E e fa) (he : ∀ whole, isTrue e X.env whole = (do let v ← whole; standAt e.pos; holding [v] (truthy v)) := by intro _; rfl) : MT X E e (mB fa) := by
  obtain ⟨ta, p, q⟩ := h.ex
  exact ⟨_, pt_val p he, ref_B q⟩
theorem mt_cmp {op : CmpOp} {r : R2} {g : Sto → D → D → MM D} (ho : OpR X (compareOp op) r) (hr : Rf2 X.K E r g) (ha : ME X E a fa) (hb : ME X E b fb) (hm : behindInMarks op b = false) : MT X E (.Compare a [op] [b] pos) (mB (mBin g fa fb)) := by
  obtain ⟨ta, p, q⟩ := ha.ex
  obtain ⟨tb, p', q'⟩ := hb.ex
  exact ⟨_, pt_cmpR ho p p' hm, ref_test (ref_bin hr q q')⟩
/-! two comparisons in a row -/
def mChain (g g' : Sto → D → D → MM D) (fa fb fc : FE) : FE := fun sl st => bnd (fa sl st) fun x st => bnd (fb sl st) fun y st => bnd (g st x y) fun z st => match z with
  | .bl k => cond k (bnd (fc sl st) fun u st => g' st y u) (ret (.bl false) st)
  | _ => none
theorem ref_chain {r r' : R2} {g g' : Sto → D → D → MM D} (hr : Rf2 K E r g) (hr' : Rf2 K E r' g') (ha : RefE K E ta fa) (hb : RefE K E tb fb) (hc : RefE K E tc fc) : RefE K E (tChain r r' ta tb tc) (mChain g g' fa fb fc) := fun sl σ w Q o s h => by
  refine ha sl σ w _ o s (post_bnd h fun x dx w1 o1 s1 rx h1 => ?_)
  refine hb sl σ w1 _ o1 (s.step s1) (post_bnd h1 fun y dy w2 o2 s2 ry h2 => ?_)
  refine hr x y dx dy w2 _ o2 (rx.mono s2.le s2.pre) ry (post_bnd h2 fun z dz w3 o3 s3 rz h3 => ?_)
  cases dz with
  | bl k =>
    refine ⟨k, rz.bl_inv, ?_⟩
    cases k with
    | true =>
      refine (if_pos rfl).mpr ?_
      refine hc sl σ w3 _ o3 (((s.step s1).step s2).step s3) (post_bnd h3 fun u du w4 o4 s4 ru h4 => ?_)
      exact hr' y u dy du w4 _ o4 ((ry.mono s3.le s3.pre).mono s4.le s4.pre) ru h4
    | false =>
      refine (if_neg Bool.false_ne_true).mpr ?_
      exact post_ret o3 (.bl false) h3
  | _ => exact h3.elim
theorem me_chain {op op' : CmpOp} {r r' : R2} {g g' : Sto → D → D → MM D} (ho : OpR X (compareOp op) r) (ho' : OpR X (compareOp op') r') (hr : Rf2 X.K E r g) (hr' : Rf2 X.K E r' g') (ha : ME X E a fa) (hb : ME X E b fb) (hc : ME X E c fc)
    (hm : lastMarks [op, op'] [b, c] = false := by with_unfolding_all rfl) : ME X E (.Compare a [op, op'] [b, c] pos) (mChain g g' fa fb fc) := by
  obtain ⟨ta, p, q⟩ := ha.ex
  obtain ⟨tb, p', q'⟩ := hb.ex
  obtain ⟨tc, p2, q2⟩ := hc.ex
  exact ⟨_, pe_chain ho ho' p p' p2 hm, ref_chain hr hr' q q' q2⟩
theorem mt_chain {op op' : CmpOp} {r r' : R2} {g g' : Sto → D → D → MM D} (ho : OpR X (compareOp op) r) (ho' : OpR X (compareOp op') r') (hr : Rf2 X.K E r g) (hr' : Rf2 X.K E r' g') (ha : ME X E a fa) (hb : ME X E b fb) (hc : ME X E c fc)
    (hm : lastMarks [op, op'] [b, c] = false := by with_unfolding_all rfl) : MT X E (.Compare a [op, op'] [b, c] pos) (mB (mChain g g' fa fb fc)) := by
  obtain ⟨ta, p, q⟩ := ha.ex
  obtain ⟨tb, p', q'⟩ := hb.ex
  obtain ⟨tc, p2, q2⟩ := hc.ex
  exact ⟨_, pt_chain ho ho' p p' p2 hm, ref_test (ref_chain hr hr' q q' q2)⟩
end
end M

namespace M
open PySem L2
section
variable {X : Cx} {E : XK} {K : PySem.W.Frag} {a b c e o : Expr} {es rest : List Expr} {fa fb fc : FE} {ga gb gc : FT} {fs : FA} {ta tb tc : TE} {t u : TT} {ts : TA} {pos : Pos}
/-! ### tests -/
def mAnd (f g : FT) : FT := fun sl st => bnd (f sl st) fun c st => cond c (g sl st) (ret false st)
def mOr (f g : FT) : FT := fun sl st => bnd (f sl st) fun c st => cond c (ret true st) (g sl st)
def mNot (f : FT) : FT := fun sl st => bnd (f sl st) fun c st => ret (!c) st
theorem ref_and (h1 : RefT K E t ga) (h2 : RefT K E u gb) : RefT K E (tAnd t u) (mAnd ga gb) := fun sl σ w Q o s h => by
  refine h1 sl σ w _ o s (post_bnd h fun v x w1 o1 s1 r hp => ?_)
  have r : v = x := r
  subst r
  cases v with
  | true => exact (if_pos rfl).mpr (h2 sl σ w1 _ o1 (s.step s1) hp)
  | false => exact (if_neg Bool.false_ne_true).mpr (post_ret o1 rfl hp)
theorem ref_or (h1 : RefT K E t ga) (h2 : RefT K E u gb) : RefT K E (tOr t u) (mOr ga gb) := fun sl σ w Q o s h => by
  refine h1 sl σ w _ o s (post_bnd h fun v x w1 o1 s1 r hp => ?_)
  have r : v = x := r
  subst r
  cases v with
  | true => exact (if_pos rfl).mpr (post_ret o1 rfl hp)
  | false => exact (if_neg Bool.false_ne_true).mpr (h2 sl σ w1 _ o1 (s.step s1) hp)
theorem ref_not (h1 : RefT K E t ga) : RefT K E (tNot t) (mNot ga) := fun sl σ w Q o s h => by
  refine h1 sl σ w _ o s (post_bnd h fun v x w1 o1 s1 r hp => ?_)
  have r : v = x := r
  subst r
  exact post_ret o1 rfl hp
theorem mw_and1 (ha : MT X E a ga) : MW X E (.BoolOp .And [a] pos) ga := by
  obtain ⟨t, p, q⟩ := ha.ex
  exact ⟨_, pw_and1 p, q⟩
theorem mw_or1 (ha : MT X E a ga) : MW X E (.BoolOp .Or [a] pos) ga := by
  obtain ⟨t, p, q⟩ := ha.ex
  exact ⟨_, pw_or1 p, q⟩
theorem mw_and (ha : MT X E a ga) (hb : MW X E (.BoolOp .And (b :: rest) pos) gb) : MW X E (.BoolOp .And (a :: b :: rest) pos) (mAnd ga gb) := by
  obtain ⟨t, p, q⟩ := ha.ex
  obtain ⟨u, p', q'⟩ := hb.ex
  exact ⟨_, pw_and p p', ref_and q q'⟩
theorem mw_or (ha : MT X E a ga) (hb : MW X E (.BoolOp .Or (b :: rest) pos) gb) : MW X E (.BoolOp .Or (a :: b :: rest) pos) (mOr ga gb) := by
  obtain ⟨t, p, q⟩ := ha.ex
  obtain ⟨u, p', q'⟩ := hb.ex
  exact ⟨_, pw_or p p', ref_or q q'⟩
theorem MW.mt (h : MW X E e ga) : MT X E e ga := let ⟨t, p, q⟩ := h.ex; ⟨t, p.pt, q⟩
theorem mt_not (ha : MT X E a ga) : MT X E (.UnaryOp .Not a pos) (mNot ga) := by
  obtain ⟨t, p, q⟩ := ha.ex
  exact ⟨_, pt_not p, ref_not q⟩
/-! as values -/
def mAndV (f g : FE) : FE := fun sl st => bnd (f sl st) fun x st => match x with
  | .bl k => cond k (g sl st) (ret (.bl false) st)
  | _ => none
def mOrV (f g : FE) : FE := fun sl st => bnd (f sl st) fun x st => match x with
  | .bl k => cond k (ret (.bl true) st) (g sl st)
  | _ => none
def mNotV (f : FE) : FE := fun sl st => bnd (f sl st) fun x st => match x with
  | .bl c => ret (.bl (!c)) st
  | _ => none
theorem ref_andV (h1 : RefE K E ta fa) (h2 : RefE K E tb fb) : RefE K E (tAndV ta tb) (mAndV fa fb) := fun sl σ w Q o s h => by
  refine h1 sl σ w _ o s (post_bnd h fun v x w1 o1 s1 r hp => ?_)
  cases x with
  | bl k =>
    refine ⟨k, r.bl_inv, ?_⟩
    cases k with
    | true => exact (if_pos rfl).mpr (h2 sl σ w1 _ o1 (s.step s1) hp)
    | false => exact (if_neg Bool.false_ne_true).mpr (post_ret o1 (.bl false) hp)
  | _ => exact hp.elim
theorem ref_orV (h1 : RefE K E ta fa) (h2 : RefE K E tb fb) : RefE K E (tOrV ta tb) (mOrV fa fb) := fun sl σ w Q o s h => by
  refine h1 sl σ w _ o s (post_bnd h fun v x w1 o1 s1 r hp => ?_)
  cases x with
  | bl k =>
    refine ⟨k, r.bl_inv, ?_⟩
    cases k with
    | true => exact (if_pos rfl).mpr (post_ret o1 (.bl true) hp)
    | false => exact (if_neg Bool.false_ne_true).mpr (h2 sl σ w1 _ o1 (s.step s1) hp)
  | _ => exact hp.elim
theorem ref_notV (h1 : RefE K E ta fa) : RefE K E (tNotV ta) (mNotV fa) := fun sl σ w Q o s h => by
  refine h1 sl σ w _ o s (post_bnd h fun v x w1 o1 s1 r hp => ?_)
  cases x with
  | bl k => exact ⟨k, r.bl_inv, post_ret o1 (.bl (!k)) hp⟩
  | _ => exact hp.elim
theorem me_one {op} (ha : ME X E a fa) : ME X E (.BoolOp op [a] pos) fa := by
  obtain ⟨t, p, q⟩ := ha.ex
  exact ⟨_, pe_one p, q⟩
theorem me_and (ha : ME X E a fa) (hb : ME X E (.BoolOp .And (b :: rest) pos) fb) : ME X E (.BoolOp .And (a :: b :: rest) pos) (mAndV fa fb) := by
  obtain ⟨t, p, q⟩ := ha.ex
  obtain ⟨u, p', q'⟩ := hb.ex
  exact ⟨_, pe_and p p', ref_andV q q'⟩
theorem me_or (ha : ME X E a fa) (hb : ME X E (.BoolOp .Or (b :: rest) pos) fb) : ME X E (.BoolOp .Or (a :: b :: rest) pos) (mOrV fa fb) := by
  obtain ⟨t, p, q⟩ := ha.ex
  obtain ⟨u, p', q'⟩ := hb.ex
  exact ⟨_, pe_or p p', ref_orV q q'⟩
theorem me_not (ha : ME X E a fa) : ME X E (.UnaryOp .Not a pos) (mNotV fa) := by
  obtain ⟨t, p, q⟩ := ha.ex
  exact ⟨_, pe_not p, ref_notV q⟩
def mIfE (g : FT) (f1 f2 : FE) : FE := fun sl st => bnd (g sl st) fun c st => cond c (f1 sl st) (f2 sl st)
theorem ref_ifE (h : RefT K E t ga) (h1 : RefE K E ta fa) (h2 : RefE K E tb fb) : RefE K E (tIf t ta tb) (mIfE ga fa fb) := fun sl σ w Q o s hq => by
  refine h sl σ w _ o s (post_bnd hq fun v x w1 o1 s1 r hp => ?_)
  have r : v = x := r
  subst r
  cases v with
  | true => exact (if_pos rfl).mpr (h1 sl σ w1 _ o1 (s.step s1) hp)
  | false => exact (if_neg Bool.false_ne_true).mpr (h2 sl σ w1 _ o1 (s.step s1) hp)
theorem me_if (hc : MT X E c ga) (ha : ME X E a fa) (hb : ME X E b fb) : ME X E (.IfExp c a b pos) (mIfE ga fa fb) := by
  obtain ⟨t, p, q⟩ := hc.ex
  obtain ⟨t1, p1, q1⟩ := ha.ex
  obtain ⟨t2, p2, q2⟩ := hb.ex
  exact ⟨_, pe_ifExp p p1 p2, ref_ifE q q1 q2⟩
/-! truth of any value -/
def truD (st : Sto) : D → Option Bool
  | .non => some false
  | .bl b => some b
  | .int i => some (i != 0)
  | .str y => if y.length ≤ sizeLine then some ((y.length : Int) != 0) else none
  | .lst ds => some (!ds.isEmpty)
  | .scr ds => some (!ds.isEmpty)
  | .tup ds => some (!ds.isEmpty)
  | .dct ds => none
  | .gtp ds => none
  | .fnc _ => none
  | .dcT ds => none
  | .ptr i => match cellL st i with
    | some ds => some (!ds.isEmpty)
    | none => none
def mTru (f : FE) : FT := fun sl st => bnd (f sl st) fun x st => lift (truD st x) st
theorem Reps.empty {F : Hp} {α : List Addr} {xs : List V} {ds : List D} (r : Reps K F α xs ds) : xs.isEmpty = ds.isEmpty := by
  cases r <;> rfl
theorem truD_ok {w : Ws} (ok : Ok K w) {v : V} {d : D} {k : Bool} (r : Rep K w.F w.al v d) (h : truD w.st d = some k) : TruV K v w.H k := by
  have viaL : ∀ ds, lstOf w.st d = some ds → k = !ds.isEmpty → TruV K v w.H k := fun ds e ek => by
    obtain ⟨p, xs, rfl, s, rs⟩ := lstOf_rep ok r e
    exact .inl ⟨xs, s, by rw [rs.empty]; exact ek⟩
  cases d with
  | non => cases r; cases h; exact rfl
  | bl b => cases r; cases h; exact rfl
  | int i => cases r; cases h; exact rfl
  | str y =>
    cases r
    have h' : (if y.length ≤ sizeLine then some ((y.length : Int) != 0) else none) = some k := h
    by_cases q : y.length ≤ sizeLine
    · rw [if_pos q] at h'; cases h'; exact ⟨q, rfl⟩
    · rw [if_neg q] at h'; cases h'
  | lst ds => cases h; exact viaL ds rfl rfl
  | scr ns => cases h; exact viaL _ rfl (by cases ns <;> rfl)
  | tup ds =>
    cases h
    obtain ⟨p, xs, rfl, f, rs⟩ := r.tup_inv
    exact .inr (.inl ⟨xs, SqT.of (ok.sub _ _ f), by rw [rs.empty]⟩)
  | dct ds => cases h
  | gtp ds => cases h
  | fnc a => cases h
  | dcT ds => cases h
  | ptr i =>
    have h' : (match cellL w.st i with | some ds => some (!ds.isEmpty) | none => none) = some k := h
    cases q : cellL w.st i with
    | none => rw [q] at h'; cases h'
    | some ds => rw [q] at h'; cases h'; exact viaL ds q rfl
theorem mt_truth (h : ME X E a fa) (he : ∀ whole, isTrue a X.env whole = (do let v ← whole; standAt a.pos; holding [v] (truthy v)) := by intro _; rfl) : MT X E a (mTru fa) := by
  obtain ⟨t, p, q⟩ := h.ex
  refine ⟨_, pt_truth p he, fun sl σ w Q o s hq => ?_⟩
  refine q sl σ w _ o s (post_bnd hq fun v x w1 o1 s1 r hp => ?_)
  obtain ⟨k, e, hp⟩ := post_lift hp
  exact ⟨k, truD_ok o1 r e, post_ret o1 rfl hp⟩

/-! ### arguments, displays -/
def mNil : FA := fun _ st => ret [] st
def mCons (f : FE) (g : FA) : FA := fun sl st => bnd (f sl st) fun x st => bnd (g sl st) fun xs st => ret (x :: xs) st
theorem ma_nil : MA X E [] mNil := ⟨_, pa_nil, fun sl σ w Q o s h => post_ret o .nil h⟩
theorem ma_cons (ha : ME X E a fa) (hr : MA X E es fs) (hs : starEach (a :: es) X.env = (false, eval a X.env) :: starEach es X.env := by rfl) : MA X E (a :: es) (mCons fa fs) := by
  obtain ⟨t, p, q⟩ := ha.ex
  obtain ⟨t', p', q'⟩ := hr.ex
  refine ⟨_, pa_cons p p' hs, fun sl σ w Q o s h => ?_⟩
  refine q sl σ w _ o s (post_bnd h fun v x w1 o1 s1 r hp => ?_)
  refine q' sl σ w1 _ o1 (s.step s1) (post_bnd hp fun vs xs w2 o2 s2 rs hp2 => ?_)
  exact post_ret o2 (.cons (r.mono s2.le s2.pre) rs) hp2
/-- a new list: a cell (true), or still -/
def mkL (c : Bool) (ds : List D) (st : Sto) : MM D := match c with
  | true => ret (.ptr st.length) (st ++ [some (.lst ds)])
  | false => ret (.lst ds) st
theorem post_mkL {c : Bool} {ds : List D} {w : Ws} {Q : VK} (o : Ok K w) (h : Post K E (rD K) w (mkL c ds w.st) Q) {p : Addr} {xs : List V} (hp : w.H p = none) (r : Reps K w.F w.al xs ds) : Q (.ref p) (upd w.H p (.lst xs)) := by
  cases c with
  | true =>
    have pr := Pre.app w.al [p]
    refine h (.ref p) (w.newC p (.lst xs) (.lst ds)) rfl (ok_newC o hp (.lst upd_same (r.mono (Le.refl _) pr))) (step_newC o hp _ _) (.ptr ?_)
    show (w.al ++ [p])[w.st.length]? = some p
    rw [List.getElem?_append_right (by rw [o.len]; exact Nat.le_refl _), o.len, Nat.sub_self]; rfl
  | false =>
    have s := step_newV o hp (.lst xs)
    exact h (.ref p) (w.newV p (.lst xs)) rfl (ok_newV o hp _) s (.lst (show upd w.F p _ p = _ from upd_same) (r.mono s.le s.pre))
def mkT (ds : List D) (st : Sto) : MM D := ret (.tup ds) st
theorem post_mkT {ds : List D} {w : Ws} {Q : VK} (o : Ok K w) (h : Post K E (rD K) w (mkT ds w.st) Q) {p : Addr} {xs : List V} (hp : w.H p = none) (r : Reps K w.F w.al xs ds) : Q (.ref p) (upd w.H p (.tup xs)) := by
  have s := step_newV o hp (.tup xs)
  exact h (.ref p) (w.newV p (.tup xs)) rfl (ok_newV o hp _) s (.tup (show upd w.F p _ p = _ from upd_same) (r.mono s.le s.pre))
theorem five : (1000 : Nat) ≤ sizeLine := by decide
def mTup (g : FA) : FE := fun sl st => bnd (g sl st) fun ds st => if ds.length ≤ 1000 then mkT ds st else none
def mLst (c : Bool) (g : FA) : FE := fun sl st => bnd (g sl st) fun ds st => if ds.length ≤ 1000 then mkL c ds st else none
theorem post_ite {τ υ : Type} {rp : Ws → υ → τ → Prop} {w : Ws} {p : Prop} [Decidable p] {m : MM τ} {Q : υ → Hp → Prop} (h : Post K E rp w (if p then m else none) Q) : p ∧ Post K E rp w m Q := by
  by_cases q : p
  · rw [if_pos q] at h; exact ⟨q, h⟩
  · rw [if_neg q] at h; exact h.elim
theorem me_tup {x1} (h : MA X E es fs) : ME X E (.Tuple es x1 pos) (mTup fs) := by
  obtain ⟨t, p, q⟩ := h.ex
  refine ⟨_, pe_tup p, fun sl σ w Q o s h => ?_⟩
  refine q sl σ w _ o s (post_bnd h fun vs xs w1 o1 s1 r hp => ?_)
  obtain ⟨hl, hp⟩ := post_ite hp
  exact ⟨by rw [r.length]; exact Nat.le_trans hl five, fun p np => post_mkT o1 hp np r⟩
theorem me_lst (c : Bool) (h : MA X E es fs) : ME X E (.List es pos) (mLst c fs) := by
  obtain ⟨t, p, q⟩ := h.ex
  refine ⟨_, pe_lst p, fun sl σ w Q o s h => ?_⟩
  refine q sl σ w _ o s (post_bnd h fun vs xs w1 o1 s1 r hp => ?_)
  obtain ⟨hl, hp⟩ := post_ite hp
  exact ⟨by rw [r.length]; exact Nat.le_trans hl five, fun p np => post_mkL o1 hp np r⟩

/-! ### calls of what is built in -/
def mCB (g : Sto → List D → MM D) (f : FA) : FE := fun sl st => bnd (f sl st) fun ds st => g st ds
def RfC (K : PySem.W.Frag) (E : XK) (r : List V → Hp → VK → Prop) (g : Sto → List D → MM D) : Prop := ∀ xs ds w (Q : VK), Ok K w → Reps K w.F w.al xs ds → Post K E (rD K) w (g w.st ds) Q → r xs w.H Q
theorem ref_cb {r : List V → Hp → VK → Prop} {g : Sto → List D → MM D} (hr : RfC K E r g) (hs : RefA K E ts fs) : RefE K E (tCB r ts) (mCB g fs) := fun sl σ w Q o s h => by
  refine hs sl σ w _ o s (post_bnd h fun vs xs w1 o1 s1 r hp => ?_)
  exact hr vs xs w1 Q o1 r hp
theorem me_callB {id : String} {r : List V → Hp → VK → Prop} {g : Sto → List D → MM D} {x : Str} {p : Pos} (hc : CallR X (.builtin id) r) (hr : RfC X.K E r g) (hm : X.mg x = none) (hv : bootBuiltins x = some (.builtin id)) (ha : MA X E (a :: es) fs) (hg : Gl X x := by rfl)
    (hn : x ≠ "__name__" := by decide) (hdb : (x == ("__debug__" : Str)) = false := by decide) (he : starEach (a :: es) X.env = (false, eval a X.env) :: starEach es X.env := by rfl) (hpl : (backTo pos (starEach es X.env)).any (·.1) = false := by rfl) : ME X E (.Call (.Name x p) (a :: es) [] pos) (mCB g fs) := by
  obtain ⟨t, p, q⟩ := ha.ex
  exact ⟨_, pe_callB hc hg hm hv p hn hdb he hpl, ref_cb hr q⟩
theorem me_callTy {T : String} {r : List V → Hp → VK → Prop} {g : Sto → List D → MM D} {x : Str} {p : Pos} (hc : CallR X (.type T) r) (hr : RfC X.K E r g) (hm : X.mg x = none) (hv : bootBuiltins x = some (.type T)) (ha : MA X E (a :: es) fs) (hg : Gl X x := by rfl)
    (hn : x ≠ "__name__" := by decide) (hdb : (x == ("__debug__" : Str)) = false := by decide) (he : starEach (a :: es) X.env = (false, eval a X.env) :: starEach es X.env := by rfl) (hpl : (backTo pos (starEach es X.env)).any (·.1) = false := by rfl) : ME X E (.Call (.Name x p) (a :: es) [] pos) (mCB g fs) := by
  obtain ⟨t, p, q⟩ := ha.ex
  exact ⟨_, pe_callTy hc hg hm hv p hn hdb he hpl, ref_cb hr q⟩
end
end M

namespace M
open PySem L2
section
variable {X : Cx} {E : XK} {K : PySem.W.Frag} {a b c e o : Expr} {es rest : List Expr} {fa fb fc : FE} {fs : FA} {ta tb tc : TE} {pos : Pos}
theorem Rf2.or {r r' : R2} {g g' : Sto → D → D → MM D} {h : Sto → D → D → MM D} (h1 : Rf2 K E r g) (h2 : Rf2 K E r' g') (c : Sto → D → D → Bool) (e : ∀ st x y, h st x y = if c st x y then g st x y else g' st x y) : Rf2 K E (fun x y H Q => r x y H Q ∨ r' x y H Q) h := fun x y dx dy w Q o rx ry hp => by
  rw [e] at hp
  by_cases q : c w.st dx dy = true
  · rw [if_pos q] at hp; exact .inl (h1 x y dx dy w Q o rx ry hp)
  · rw [if_neg q] at hp; exact .inr (h2 x y dx dy w Q o rx ry hp)
/-! ### whole numbers -/
def gI (C : Int → Int → Prop) [∀ i j, Decidable (C i j)] (f : Int → Int → D) : Sto → D → D → MM D := fun st x y => match x, y with
  | .int i, .int j => if C i j then ret (f i j) st else none
  | _, _ => none
def gI0 (f : Int → Int → D) : Sto → D → D → MM D := fun st x y => match x, y with
  | .int i, .int j => ret (f i j) st
  | _, _ => none
theorem rf_I {C : Int → Int → Prop} [∀ i j, Decidable (C i j)] {g : Int → Int → V} {f : Int → Int → D} (h : ∀ i j F α, Rep K F α (g i j) (f i j)) : Rf2 K E (rI C g) (gI C f) := fun x y dx dy w Q o rx ry hp => by
  cases dx with
  | int i =>
    cases dy with
    | int j =>
      obtain ⟨hc, hp⟩ := post_ite (p := C i j) hp
      exact ⟨i, j, rx.int_inv, ry.int_inv, hc, post_ret o (h i j _ _) hp⟩
    | _ => exact hp.elim
  | _ => exact hp.elim
theorem rf_I0 {g : Int → Int → V} {f : Int → Int → D} (h : ∀ i j F α, Rep K F α (g i j) (f i j)) : Rf2 K E (rI0 g) (gI0 f) := fun x y dx dy w Q o rx ry hp => by
  cases dx with
  | int i =>
    cases dy with
    | int j => exact ⟨i, j, rx.int_inv, ry.int_inv, post_ret o (h i j _ _) hp⟩
    | _ => exact hp.elim
  | _ => exact hp.elim
instance {i j : Int} : Decidable (CMul i j) := by unfold CMul; infer_instance
instance {i j : Int} : Decidable (CDiv i j) := by unfold CDiv; infer_instance
instance {i j : Int} : Decidable (CPow i j) := by unfold CPow; infer_instance
abbrev gSub := gI0 fun i j => .int (i - j)
abbrev gMul := gI CMul fun i j => .int (i * j)
abbrev gDiv := gI CDiv fun i j => .int (i / j)
abbrev gMod := gI (fun _ j => 0 < j) fun i j => .int (i % j)
abbrev gPow := gI CPow fun i j => .int (i ^ j.toNat)
theorem me_sub (ha : ME X E a fa) (hb : ME X E b fb) : ME X E (.BinOp a .Sub b pos) (mBin gSub fa fb) := me_bin op_sub (rf_I0 fun _ _ _ _ => .int _) ha hb
theorem me_mul (ha : ME X E a fa) (hb : ME X E b fb) : ME X E (.BinOp a .Mult b pos) (mBin gMul fa fb) := me_bin op_mul (rf_I fun _ _ _ _ => .int _) ha hb
theorem me_div (ha : ME X E a fa) (hb : ME X E b fb) : ME X E (.BinOp a .FloorDiv b pos) (mBin gDiv fa fb) := me_bin op_fdiv (rf_I fun _ _ _ _ => .int _) ha hb
theorem me_mod (ha : ME X E a fa) (hb : ME X E b fb) : ME X E (.BinOp a .Mod b pos) (mBin gMod fa fb) := me_bin op_mod (rf_I fun _ _ _ _ => .int _) ha hb
theorem me_pow (ha : ME X E a fa) (hb : ME X E b fb) : ME X E (.BinOp a .Pow b pos) (mBin gPow fa fb) := me_bin op_pow (rf_I fun _ _ _ _ => .int _) ha hb
def gNeg : Sto → D → MM D := fun st x => match x with
  | .int i => ret (.int (-i)) st
  | _ => none
theorem me_neg (ha : ME X E a fa) : ME X E (.UnaryOp .USub a pos) (mUn gNeg fa) := me_un un_neg (fun x dx w Q o rx hp => by
  cases dx with
  | int i => exact ⟨i, rx.int_inv, post_ret o (.int _) hp⟩
  | _ => exact hp.elim) ha
/-! ### + -/
def gAdd (c : Bool) : Sto → D → D → MM D := fun st x y => match x, y with
  | .int i, .int j => ret (.int (i + j)) st
  | .str i, .str j => if i.length + j.length ≤ sizeLine then ret (.str (i ++ j)) st else none
  | x, y => match lstOn st x, lstOn st y with
    | some ds, some es => if ds.length + es.length ≤ sizeLine then mkL c (ds ++ es) st else none
    | _, _ => none
theorem me_add (c : Bool) (ha : ME X E a fa) (hb : ME X E b fb) : ME X E (.BinOp a .Add b pos) (mBin (gAdd c) fa fb) := me_bin (op_add.or (op_add_str.or op_cat)) (fun x y dx dy w Q o rx ry hp => by
  have viaL : (match lstOn w.st dx, lstOn w.st dy with
    | some ds, some es => if ds.length + es.length ≤ sizeLine then mkL c (ds ++ es) w.st else none
    | _, _ => none) = gAdd c w.st dx dy → rCat x y w.H Q := fun e => by
    rw [← e] at hp
    cases h1 : lstOn w.st dx with
    | none => rw [h1] at hp; exact hp.elim
    | some ds =>
      cases h2 : lstOn w.st dy with
      | none => rw [h1, h2] at hp; exact hp.elim
      | some es =>
        rw [h1, h2] at hp
        obtain ⟨hl, hp⟩ := post_ite hp
        obtain ⟨p, xs, rfl, hx, rs⟩ := lstOn_rep o rx h1
        obtain ⟨q, ys, rfl, hy, rs'⟩ := lstOn_rep o ry h2
        exact ⟨p, q, xs, ys, rfl, rfl, hx, hy, by rw [rs.length, rs'.length]; exact hl, fun l nl => post_mkL o hp nl (rs.append rs')⟩
  cases dx with
  | int i =>
    cases dy with
    | int j => exact .inl ⟨i, j, rx.int_inv, ry.int_inv, post_ret o (.int _) hp⟩
    | _ => exact hp.elim
  | str i =>
    cases dy with
    | str j =>
      obtain ⟨hl, hp⟩ := post_ite hp
      exact .inr (.inl ⟨i, j, rx.str_inv, ry.str_inv, hl, post_ret o (.str _) hp⟩)
    | _ => exact hp.elim
  | lst ds => exact .inr (.inr (viaL rfl))
  | ptr i => exact .inr (.inr (viaL rfl))
  | _ => exact hp.elim) ha hb
/-! ### order -/
def gCmp (p : Int → Int → Bool) (q : List Nat → List Nat → Bool) : Sto → D → D → MM D := fun st x y => match x, y with
  | .int i, .int j => ret (.bl (p i j)) st
  | .str i, .str j => ret (.bl (q i.cps.toList j.cps.toList)) st
  | _, _ => none
theorem rf_cmp {p : Int → Int → Bool} {q : List Nat → List Nat → Bool} : Rf2 K E (fun x y H Q => rI0 (fun i j => .bl (p i j)) x y H Q ∨ (∃ i j, x = .str i ∧ y = .str j ∧ Q (.bl (q i.cps.toList j.cps.toList)) H)) (gCmp p q) := fun x y dx dy w Q o rx ry hp => by
  cases dx with
  | int i =>
    cases dy with
    | int j => exact .inl ⟨i, j, rx.int_inv, ry.int_inv, post_ret o (.bl _) hp⟩
    | _ => exact hp.elim
  | str i =>
    cases dy with
    | str j => exact .inr ⟨i, j, rx.str_inv, ry.str_inv, post_ret o (.bl _) hp⟩
    | _ => exact hp.elim
  | _ => exact hp.elim
abbrev gLt := gCmp (fun i j => decide (i < j)) (fun i j => decide (i < j))
abbrev gLe := gCmp (fun i j => decide (i ≤ j)) (fun i j => !decide (j < i))
abbrev gGt := gCmp (fun i j => decide (j < i)) (fun i j => decide (j < i))
abbrev gGe := gCmp (fun i j => decide (j ≤ i)) (fun i j => !decide (i < j))
theorem opr_lt : OpR X (compareOp .Lt) (fun x y H Q => rI0 (fun i j => .bl (decide (i < j))) x y H Q ∨ (∃ i j, x = .str i ∧ y = .str j ∧ Q (.bl (decide (i.cps.toList < j.cps.toList))) H)) := op_lt.or op_lt_str
theorem opr_le : OpR X (compareOp .LtE) (fun x y H Q => rI0 (fun i j => .bl (decide (i ≤ j))) x y H Q ∨ (∃ i j, x = .str i ∧ y = .str j ∧ Q (.bl (!decide (j.cps.toList < i.cps.toList))) H)) := op_le.or op_le_str
theorem opr_gt : OpR X (compareOp .Gt) (fun x y H Q => rI0 (fun i j => .bl (decide (j < i))) x y H Q ∨ (∃ i j, x = .str i ∧ y = .str j ∧ Q (.bl (decide (j.cps.toList < i.cps.toList))) H)) := op_gt.or op_gt_str
theorem opr_ge : OpR X (compareOp .GtE) (fun x y H Q => rI0 (fun i j => .bl (decide (j ≤ i))) x y H Q ∨ (∃ i j, x = .str i ∧ y = .str j ∧ Q (.bl (!decide (i.cps.toList < j.cps.toList))) H)) := op_ge.or op_ge_str
/-! ### ==, != of plain things -/
def scD : D → Option V
  | .non => some .non
  | .bl b => some (.bl b)
  | .int i => some (.int i)
  | .str s => some (.str s)
  | _ => none
theorem scD_rep {F : Hp} {α : List Addr} {v x : V} {d : D} (r : Rep K F α v d) (h : scD d = some x) : v = x := by
  cases d with
  | non => cases h; exact r.non_inv
  | bl b => cases h; exact r.bl_inv
  | int i => cases h; exact r.int_inv
  | str s => cases h; exact r.str_inv
  | _ => cases h
def gEq : Sto → D → D → MM D := fun st x y => match scD x, scD y with
  | some u, some v => if scal u v = true then ret (.bl (decide (u = v))) st else none
  | _, _ => none
def gNe : Sto → D → D → MM D := fun st x y => match scD x, scD y with
  | some u, some v => if scal u v = true then ret (.bl (!decide (u = v))) st else none
  | _, _ => none
theorem rf_eq : Rf2 K E rEq gEq := fun x y dx dy w Q o rx ry hp => by
  unfold gEq at hp
  cases h1 : scD dx with
  | none => rw [h1] at hp; exact hp.elim
  | some u =>
    cases h2 : scD dy with
    | none => rw [h1, h2] at hp; exact hp.elim
    | some v =>
      rw [h1, h2] at hp
      obtain ⟨hs, hp⟩ := post_ite hp
      rw [scD_rep rx h1, scD_rep ry h2]
      exact ⟨hs, post_ret o (.bl _) hp⟩
theorem rf_ne : Rf2 K E rNe gNe := fun x y dx dy w Q o rx ry hp => by
  unfold gNe at hp
  cases h1 : scD dx with
  | none => rw [h1] at hp; exact hp.elim
  | some u =>
    cases h2 : scD dy with
    | none => rw [h1, h2] at hp; exact hp.elim
    | some v =>
      rw [h1, h2] at hp
      obtain ⟨hs, hp⟩ := post_ite hp
      rw [scD_rep rx h1, scD_rep ry h2]
      exact ⟨hs, post_ret o (.bl _) hp⟩
/-! is None -/
def isNon : D → Bool
  | .non => true
  | _ => false
theorem isNon_rep {F : Hp} {α : List Addr} {v : V} {d : D} (r : Rep K F α v d) : decide (v = .non) = isNon d := by
  cases r <;> rfl
def gIsN : Sto → D → D → MM D := fun st x y => match y with
  | .non => ret (.bl (isNon x)) st
  | _ => none
def gNotN : Sto → D → D → MM D := fun st x y => match y with
  | .non => ret (.bl (!isNon x)) st
  | _ => none
theorem rf_isN : Rf2 K E (fun x y H Q => y = .non ∧ Q (.bl (decide (x = .non))) H) gIsN := fun x y dx dy w Q o rx ry hp => by
  cases dy with
  | non => exact ⟨ry.non_inv, by rw [isNon_rep rx]; exact post_ret o (.bl _) hp⟩
  | _ => exact hp.elim
theorem rf_notN : Rf2 K E (fun x y H Q => y = .non ∧ Q (.bl (!decide (x = .non))) H) gNotN := fun x y dx dy w Q o rx ry hp => by
  cases dy with
  | non => exact ⟨ry.non_inv, by rw [isNon_rep rx]; exact post_ret o (.bl _) hp⟩
  | _ => exact hp.elim
/-! ### items -/
def gIx : Sto → D → D → MM D := fun st x y => match y with
  | .int i => match x with
    | .str z => if z.length ≤ sizeLine then lift ((atI z.cps.toList i).map fun c => .str ⟨#[c]⟩) st else none
    | .tup ds => lift (atI ds i) st
    | x => match lstOf st x with
      | some ds => lift (atI ds i) st
      | none => none
  | _ => none
theorem Reps.atI {F : Hp} {α : List Addr} {xs : List V} {ds : List D} {i : Int} {d : D} (r : Reps K F α xs ds) (h : L2.atI ds i = some d) : ∃ v, L2.atI xs i = some v ∧ Rep K F α v d := by
  unfold L2.atI at h ⊢
  rw [r.length]
  cases q : ixN ds.length i with
  | none => rw [q] at h; cases h
  | some j =>
    rw [q] at h
    exact r.get h
theorem me_ix (ha : ME X E a fa) (hb : ME X E b fb) (hs : PlainIx b := by exact fun _ _ => rfl) : ME X E (.Subscript a b pos) (mBin gIx fa fb) := by
  obtain ⟨ta, p, q⟩ := ha.ex
  obtain ⟨tb, p', q'⟩ := hb.ex
  refine ⟨_, pe_ix ix_seq p p' hs, ref_bin (fun x y dx dy w Q o rx ry hp => ?_) q q'⟩
  cases dy with
  | int i =>
    have viaL : (match lstOf w.st dx with
      | some ds => lift (L2.atI ds i) w.st
      | none => none) = gIx w.st dx (.int i) → rIxL X.K x y w.H Q := fun e => by
      rw [← e] at hp
      cases h1 : lstOf w.st dx with
      | none => rw [h1] at hp; exact hp.elim
      | some ds =>
        rw [h1] at hp
        obtain ⟨d, ed, hp⟩ := post_lift hp
        obtain ⟨p, xs, rfl, hx, rs⟩ := lstOf_rep o rx h1
        obtain ⟨v, ev, rv⟩ := rs.atI ed
        exact ⟨p, xs, i, v, rfl, ry.int_inv, hx, ev, post_ret o rv hp⟩
    cases dx with
    | str z =>
      obtain ⟨hz, hp⟩ := post_ite hp
      obtain ⟨d, ed, hp⟩ := post_lift hp
      cases e : L2.atI z.cps.toList i with
      | none => rw [e] at ed; cases ed
      | some c =>
        rw [e] at ed; cases ed
        exact .inr (.inr ⟨z, i, c, rx.str_inv, ry.int_inv, hz, e, post_ret o (.str _) hp⟩)
    | tup ds =>
      obtain ⟨d, ed, hp⟩ := post_lift hp
      obtain ⟨p, xs, rfl, hx, rs⟩ := rx.tup_inv
      obtain ⟨v, ev, rv⟩ := rs.atI ed
      exact .inr (.inl ⟨p, xs, i, v, rfl, ry.int_inv, SqT.of (o.sub _ _ hx), ev, post_ret o rv hp⟩)
    | lst ds => exact .inl (viaL rfl)
    | scr ds => exact .inl (viaL rfl)
    | ptr j => exact .inl (viaL rfl)
    | _ => exact hp.elim
  | _ => exact hp.elim
/-! ### slices -/
abbrev FO := Sl → Sto → MM (Option Int)
structure MO (X : Cx) (E : XK) (e : Option Expr) (f : FO) : Prop where
  ex : ∃ t, PO X e t ∧ ∀ sl σ w (Q : Option Int → Hp → Prop), Ok X.K w → Slots X.K w sl σ → Post X.K E (fun _ a b => a = b) w (f sl w.st) Q → t σ w.H Q
def mNoPart : FO := fun _ st => ret none st
def mPart (f : FE) : FO := fun sl st => bnd (f sl st) fun x st => match x with
  | .int i => ret (some i) st
  | _ => none
theorem mo_none : MO X E none mNoPart := ⟨_, po_none, fun sl σ w Q o s h => post_ret (rp := fun _ a b => a = b) o rfl h⟩
theorem mo_some (ha : ME X E a fa) : MO X E (some a) (mPart fa) := by
  obtain ⟨t, p, q⟩ := ha.ex
  refine ⟨_, po_some p, fun sl σ w Q o s h => ?_⟩
  refine q sl σ w _ o s (post_bnd h fun v x w1 o1 s1 r hp => ?_)
  cases x with
  | int i => exact ⟨i, r.int_inv, post_ret (rp := fun _ a b => a = b) o1 rfl hp⟩
  | _ => exact hp.elim
def cutD (xs : List D) (lo hi : Option Int) : List D := (xs.drop (HT.sIx xs.length 0 lo)).take (HT.sIx xs.length xs.length hi - HT.sIx xs.length 0 lo)
def gSl (c : Bool) : Sto → D → Option Int → Option Int → MM D := fun st x lo hi => match x with
  | .str z => if z.length ≤ sizeLine then ret (.str (cutS z lo hi)) st else none
  | x => match lstOf st x with
    | some ds => mkL c (cutD ds lo hi) st
    | none => none
def mSl (c : Bool) (f : FE) (l h : FO) : FE := fun sl st => bnd (f sl st) fun x st => bnd (l sl st) fun lo st => bnd (h sl st) fun hi st => gSl c st x lo hi
theorem Reps.cut {F : Hp} {α : List Addr} {xs : List V} {ds : List D} (lo hi : Option Int) (r : Reps K F α xs ds) : Reps K F α (cutV xs lo hi) (cutD ds lo hi) := by
  unfold cutV cutD
  rw [r.length]
  exact (r.drop _).take _
theorem me_sl (c : Bool) {lo hi : Option Expr} {fl fh : FO} {p2 : Pos} (ha : ME X E a fa) (hl : MO X E lo fl) (hh : MO X E hi fh) : ME X E (.Subscript a (.Slice lo hi none p2) pos) (mSl c fa fl fh) := by
  obtain ⟨ta, p, q⟩ := ha.ex
  obtain ⟨tl, p1, q1⟩ := hl.ex
  obtain ⟨th, p2, q2⟩ := hh.ex
  refine ⟨_, pe_slice (sl_str.or sl_list) p p1 p2, fun sl σ w Q o s h => ?_⟩
  refine q sl σ w _ o s (post_bnd h fun x dx w1 o1 s1 rx h1 => ?_)
  refine q1 sl σ w1 _ o1 (s.step s1) (post_bnd h1 fun v lo w2 o2 s2 r1 h2 => ?_)
  have r1 : v = lo := r1
  subst r1
  refine q2 sl σ w2 _ o2 ((s.step s1).step s2) (post_bnd h2 fun u hi w3 o3 s3 r2 hp => ?_)
  have r2 : u = hi := r2
  subst r2
  have rx := (rx.mono s2.le s2.pre).mono s3.le s3.pre
  have viaL : (match lstOf w3.st dx with
      | some ds => mkL c (cutD ds v u) w3.st
      | none => none) = gSl c w3.st dx v u → rSlL X.K x v u w3.H Q := fun e => by
    rw [← e] at hp
    cases h1 : lstOf w3.st dx with
    | none => rw [h1] at hp; exact hp.elim
    | some ds =>
      rw [h1] at hp
      obtain ⟨p, xs, rfl, hx, rs⟩ := lstOf_rep o3 rx h1
      exact ⟨p, xs, rfl, hx, fun l nl => post_mkL o3 hp nl (rs.cut v u)⟩
  cases dx with
  | str z =>
    obtain ⟨hz, hp⟩ := post_ite hp
    exact .inl ⟨z, rx.str_inv, hz, post_ret o3 (.str _) hp⟩
  | lst ds => exact .inr (viaL rfl)
  | scr ds => exact .inr (viaL rfl)
  | ptr j => exact .inr (viaL rfl)
  | _ => exact hp.elim
/-! ### built-in functions -/
def cLen (st : Sto) (ds : List D) : MM D := match ds with
  | [.str z] => if z.length ≤ sizeLine then ret (.int z.length) st else none
  | [.tup xs] => ret (.int xs.length) st
  | [x] => match lstOf st x with
    | some xs => ret (.int xs.length) st
    | none => none
  | _ => none
theorem Reps.one_inv {F : Hp} {α : List Addr} {xs : List V} {d : D} (r : Reps K F α xs [d]) : ∃ x, xs = [x] ∧ Rep K F α x d := by
  cases r with | cons h t => cases t; exact ⟨_, rfl, h⟩
theorem Reps.two_inv {F : Hp} {α : List Addr} {xs : List V} {d e : D} (r : Reps K F α xs [d, e]) : ∃ x y, xs = [x, y] ∧ Rep K F α x d ∧ Rep K F α y e := by
  cases r with | cons h t => cases t with | cons h2 t => cases t; exact ⟨_, _, rfl, h, h2⟩
theorem rf_len {X : Cx} : RfC X.K E (fun xs H Q => ∃ x n, xs = [x] ∧ LenV X.K x H n ∧ Q (.int n) H) cLen := fun xs ds w Q o r hp => by
  cases ds with
  | nil => exact hp.elim
  | cons d t =>
    cases t with
    | cons _ _ => cases d <;> exact hp.elim
    | nil =>
      obtain ⟨x, rfl, rx⟩ := r.one_inv
      have viaL : (match lstOf w.st d with
        | some xs => ret (.int xs.length) w.st
        | none => none) = cLen w.st [d] → ∃ y n, [x] = [y] ∧ LenV X.K y w.H n ∧ Q (.int n) w.H := fun e => by
        rw [← e] at hp
        cases h1 : lstOf w.st d with
        | none => rw [h1] at hp; exact hp.elim
        | some ds =>
          rw [h1] at hp
          obtain ⟨p, xs, rfl, hx, rs⟩ := lstOf_rep o rx h1
          exact ⟨_, ds.length, rfl, .inl ⟨xs, hx, rs.length.symm⟩, post_ret o (.int _) hp⟩
      cases d with
      | str z =>
        obtain ⟨hz, hp⟩ := post_ite hp
        cases rx
        exact ⟨_, z.length, rfl, ⟨hz, rfl⟩, post_ret o (.int _) hp⟩
      | tup xs =>
        obtain ⟨p, ys, rfl, f, rs⟩ := rx.tup_inv
        exact ⟨_, xs.length, rfl, .inr ⟨ys, SqT.of (o.sub _ _ f), rs.length.symm⟩, post_ret o (.int _) hp⟩
      | lst _ => exact viaL rfl
      | scr _ => exact viaL rfl
      | ptr _ => exact viaL rfl
      | _ => exact hp.elim
def cInt (st : Sto) (ds : List D) : MM D := match ds with
  | [.int i] => ret (.int i) st
  | [.bl k] => ret (.int (if k then 1 else 0)) st
  | _ => none
theorem rf_int : RfC K E (fun xs H Q => (∃ i, xs = [.int i] ∧ Q (.int i) H) ∨ ∃ k, xs = [.bl k] ∧ Q (.int (if k then 1 else 0)) H) cInt := fun xs ds w Q o r hp => by
  cases ds with
  | nil => exact hp.elim
  | cons d t =>
    cases t with
    | cons _ _ => cases d <;> exact hp.elim
    | nil =>
      obtain ⟨x, rfl, rx⟩ := r.one_inv
      cases d with
      | int i => exact .inl ⟨i, by rw [rx.int_inv], post_ret o (.int _) hp⟩
      | bl k => exact .inr ⟨k, by rw [rx.bl_inv], post_ret o (.int _) hp⟩
      | _ => exact hp.elim
def c2I (f : Int → Int → Int) (st : Sto) (ds : List D) : MM D := match ds with
  | [.int i, .int j] => ret (.int (f i j)) st
  | _ => none
theorem rf_2I {f : Int → Int → Int} : RfC K E (fun xs H Q => ∃ i j, xs = [.int i, .int j] ∧ Q (.int (f i j)) H) (c2I f) := fun xs ds w Q o r hp => by
  unfold c2I at hp
  split at hp
  · obtain ⟨x, y, rfl, rx, ry⟩ := r.two_inv
    exact ⟨_, _, by rw [rx.int_inv, ry.int_inv], post_ret o (.int _) hp⟩
  · exact hp.elim
abbrev cMax2 := c2I fun i j => if j > i then j else i
abbrev cMin2 := c2I fun i j => if j < i then j else i
def c1I (f : Int → Int) (st : Sto) (ds : List D) : MM D := match ds with
  | [.int i] => ret (.int (f i)) st
  | _ => none
theorem rf_1I {f : Int → Int} : RfC K E (fun xs H Q => ∃ i, xs = [.int i] ∧ Q (.int (f i)) H) (c1I f) := fun xs ds w Q o r hp => by
  unfold c1I at hp
  split at hp
  · obtain ⟨x, rfl, rx⟩ := r.one_inv
    exact ⟨_, by rw [rx.int_inv], post_ret o (.int _) hp⟩
  · exact hp.elim
abbrev cAbs := c1I fun i => if i < 0 then -i else i
def cStrI (st : Sto) (ds : List D) : MM D := match ds with
  | [.int i] => if i.natAbs.log2 < 1920 then ret (.str (toString i)) st else none
  | _ => none
theorem rf_strI : RfC K E (fun xs H Q => ∃ i, xs = [.int i] ∧ i.natAbs.log2 < 1920 ∧ Q (.str (toString i)) H) cStrI := fun xs ds w Q o r hp => by
  unfold cStrI at hp
  split at hp
  · obtain ⟨x, rfl, rx⟩ := r.one_inv
    obtain ⟨hl, hp⟩ := post_ite hp
    exact ⟨_, by rw [rx.int_inv], hl, post_ret o (.str _) hp⟩
  · exact hp.elim
def cOrd (st : Sto) (ds : List D) : MM D := match ds with
  | [.str x] => if x.length = 1 then ret (.int (x.cps.getD 0 0 : Nat)) st else none
  | _ => none
theorem rf_ord : RfC K E (fun xs H Q => ∃ x, xs = [.str x] ∧ x.length = 1 ∧ Q (.int (x.cps.getD 0 0 : Nat)) H) cOrd := fun xs ds w Q o r hp => by
  unfold cOrd at hp
  split at hp
  · obtain ⟨x, rfl, rx⟩ := r.one_inv
    obtain ⟨hl, hp⟩ := post_ite hp
    exact ⟨_, by rw [rx.str_inv], hl, post_ret o (.int _) hp⟩
  · exact hp.elim
def cList (c : Bool) (st : Sto) (ds : List D) : MM D := match ds with
  | [.tup xs] => mkL c xs st
  | [x] => match lstOf st x with
    | some xs => mkL c xs st
    | none => none
  | _ => none
theorem rf_list (c : Bool) : RfC K E (fun xs H Q => ∃ p ys, xs = [.ref p] ∧ (SqL K H p ys ∨ SqT K H p ys) ∧ ∀ l, H l = none → Q (.ref l) (upd H l (.lst ys))) (cList c) := fun xs ds w Q o r hp => by
  cases ds with
  | nil => exact hp.elim
  | cons d t =>
    cases t with
    | cons _ _ => cases d <;> exact hp.elim
    | nil =>
      obtain ⟨x, rfl, rx⟩ := r.one_inv
      have viaL : (match lstOf w.st d with
        | some xs => mkL c xs w.st
        | none => none) = cList c w.st [d] → ∃ p ys, [x] = [.ref p] ∧ (SqL K w.H p ys ∨ SqT K w.H p ys) ∧ ∀ l, w.H l = none → Q (.ref l) (upd w.H l (.lst ys)) := fun e => by
        rw [← e] at hp
        cases h1 : lstOf w.st d with
        | none => rw [h1] at hp; exact hp.elim
        | some ds =>
          rw [h1] at hp
          obtain ⟨p, xs, rfl, hx, rs⟩ := lstOf_rep o rx h1
          exact ⟨p, xs, rfl, .inl hx, fun l nl => post_mkL o hp nl rs⟩
      cases d with
      | tup xs =>
        obtain ⟨p, ys, rfl, f, rs⟩ := rx.tup_inv
        exact ⟨p, ys, rfl, .inr (SqT.of (o.sub _ _ f)), fun l nl => post_mkL o hp nl rs⟩
      | lst _ => exact viaL rfl
      | scr _ => exact viaL rfl
      | ptr _ => exact viaL rfl
      | _ => exact hp.elim
end
end M

namespace M
open PySem L2
inductive Fl where
  | nx (sl : Sl) | rt (d : D) | bk (sl : Sl) | ct (sl : Sl)
abbrev FS := Sl → Sto → MM Fl
def FlOk (K : PySem.W.Frag) (D : Ends) (w : Ws) : Fl → Prop
  | .nx sl => ∀ σ, Slots K w sl σ → D.nx σ w.H
  | .rt d => ∀ v, Rep K w.F w.al v d → D.rt v w.H
  | .bk sl => ∀ σ, Slots K w sl σ → D.bk σ w.H
  | .ct sl => ∀ σ, Slots K w sl σ → D.ct σ w.H
def PostS (K : PySem.W.Frag) (E : XK) (w : Ws) (m : MM Fl) (D : Ends) : Prop := match m with
  | none => False
  | some (.ok f st) => ∀ w', w'.st = st → Ok K w' → Step w w' → FlOk K D w' f
  | some (.exc e st) => ∀ (d : Option Addr) (w' : Ws), w'.st = st → Ok K w' → Step w w' → RepX K w' e d → E (.ref e.C) d w'.H
section
variable {K : PySem.W.Frag} {E : XK} {w w1 : Ws} {D : Ends} {m : MM Fl}
theorem PostS.step (s : Step w w1) (h : PostS K E w m D) : PostS K E w1 m D := by
  match m, h with
  | some (.ok x st), h => exact fun w' e o t => h w' e o (s.trans t)
  | some (.exc e st), h => exact fun d w' q o t r => h d w' q o (s.trans t) r
theorem postS_ret {f : Fl} (o : Ok K w) (h : PostS K E w (ret f w.st) D) : FlOk K D w f := h w rfl o (Step.refl w)
/-- from an expression to the statement around it -/
theorem post_bndS {τ υ : Type} {rp : Ws → υ → τ → Prop} {m : MM τ} {k : τ → Sto → MM Fl} {Q : υ → Hp → Prop}
    (h : PostS K E w (bnd m k) D) (g : ∀ v x w1, Ok K w1 → Step w w1 → rp w1 v x → PostS K E w1 (k x w1.st) D → Q v w1.H) : Post K E rp w m Q := by
  match m, h with
  | some (.ok x st), h => exact fun v w1 e o s r => g v x w1 o s r (PostS.step s (by rw [e]; exact h))
  | some (.exc e st), h => exact h
theorem postS_bnd {k : Fl → Sto → MM Fl} {D' : Ends} (h : PostS K E w (bnd m k) D) (g : ∀ f w1, Ok K w1 → Step w w1 → PostS K E w1 (k f w1.st) D → FlOk K D' w1 f) : PostS K E w m D' := by
  match m, h with
  | some (.ok x st), h => exact fun w1 e o s => g x w1 o s (PostS.step s (by rw [e]; exact h))
  | some (.exc e st), h => exact h
theorem postS_lift {τ : Type} {o : Option τ} {st : Sto} {k : τ → Sto → MM Fl} (h : PostS K E w (bnd (lift o st) k) D) : ∃ x, o = some x ∧ PostS K E w (k x st) D := by
  cases o with
  | none => exact h.elim
  | some x => exact ⟨x, rfl, h⟩
theorem postS_ite {p : Prop} [Decidable p] (h : PostS K E w (if p then m else none) D) : p ∧ PostS K E w m D := by
  by_cases q : p
  · rw [if_pos q] at h; exact ⟨q, h⟩
  · rw [if_neg q] at h; exact h.elim
end
def RefS (K : PySem.W.Frag) (E : XK) (t : TS) (g : FS) : Prop := ∀ sl σ w D, Ok K w → Slots K w sl σ → PostS K E w (g sl w.st) D → t D σ w.H
structure MS (X : Cx) (E : XK) (s : Stmt) (g : FS) : Prop where
  ex : ∃ t, PS X s t ∧ RefS X.K E t g
structure MSs (X : Cx) (E : XK) (s : List Stmt) (g : FS) : Prop where
  ex : ∃ t, PSs X s t ∧ RefS X.K E t g
/-! targets -/
abbrev FG := D → Sl → Sto → MM Sl
abbrev FGs := List D → Sl → Sto → MM Sl
def RefG (K : PySem.W.Frag) (E : XK) (t : TG) (g : FG) : Prop := ∀ v d sl σ w (Q : St → Hp → Prop), Ok K w → Rep K w.F w.al v d → Slots K w sl σ → Post K E (fun w σ sl => Slots K w sl σ) w (g d sl w.st) Q → t v σ w.H Q
def RefGs (K : PySem.W.Frag) (E : XK) (t : TGs) (g : FGs) : Prop := ∀ vs ds sl σ w (Q : St → Hp → Prop), Ok K w → Reps K w.F w.al vs ds → Slots K w sl σ → Post K E (fun w σ sl => Slots K w sl σ) w (g ds sl w.st) Q → t vs σ w.H Q
structure MG (X : Cx) (E : XK) (e : Expr) (g : FG) : Prop where
  ex : ∃ t, PG X e t ∧ RefG X.K E t g
structure MGs (X : Cx) (E : XK) (e : List Expr) (g : FGs) : Prop where
  ex : ∃ t, PGs X e t ∧ RefGs X.K E t g
section
variable {X : Cx} {E : XK} {K : PySem.W.Frag} {a b c e o : Expr} {es rest : List Expr} {fa fb fc : FE} {ga gb : FT} {fs : FA} {ta tb tc : TE} {pos : Pos} {st : Stmt} {sts : List Stmt} {g g1 g2 : FS} {t u : TS}
def gNm (i : Nat) : FG := fun d sl st => ret (sl.set i (some d)) st
theorem mg_name {i : Nat} {x : Str} (hN : X.N.Nodup) (hi : X.N[i]? = some x := by rfl) (hx : Loc X.env.scope x := by first | exact Or.inl rfl | exact Or.inr rfl) (hf : X.fn x = true ∨ X.env.scope.names.lookup x = some .local := by first | exact .inl rfl | exact .inr rfl | assumption) : MG X E (.Name x pos) (gNm i) :=
  ⟨_, pg_name hN hi hx hf, fun v d sl σ w Q o r s h => h (σ.set i (some v)) w rfl o (Step.refl w) (s.set r)⟩
def gsNil : FGs := fun ds sl st => match ds with
  | [] => ret sl st
  | _ => none
def gsCons (g : FG) (r : FGs) : FGs := fun ds sl st => match ds with
  | d :: ds => bnd (g d sl st) fun sl st => r ds sl st
  | [] => none
theorem mgs_nil : MGs X E [] gsNil := ⟨_, pgs_nil, fun vs ds sl σ w Q o r s h => by
  cases r with
  | nil => exact ⟨rfl, h σ w rfl o (Step.refl w) s⟩
  | cons _ _ => exact h.elim⟩
theorem mgs_cons {gt : FG} {gr : FGs} (h1 : MG X E e gt) (h2 : MGs X E es gr) (hs : (assignEach (e :: es) X.env).map (·.2) = assign e X.env :: (assignEach es X.env).map (·.2) := by rfl) : MGs X E (e :: es) (gsCons gt gr) := by
  obtain ⟨t, p, q⟩ := h1.ex
  obtain ⟨t', p', q'⟩ := h2.ex
  refine ⟨_, pgs_cons p p' hs, fun vs ds sl σ w Q o r s h => ?_⟩
  cases r with
  | nil => exact h.elim
  | cons r1 r2 =>
    refine ⟨_, _, rfl, q _ _ sl σ w _ o r1 s (post_bnd h fun σ' sl' w1 o1 s1 sl1 hp => ?_)⟩
    exact q' _ _ sl' σ' w1 Q o1 (r2.mono s1.le s1.pre) sl1 hp
def gTp (n : Nat) (r : FGs) : FG := fun d sl st => match d with
  | .tup ds => if ds.length = n then r ds sl st else none
  | _ => none
theorem mg_tup {k : Nat} {gr : FGs} {n : Nat} (hc : X.calm = true) (h : MGs X E es gr) (hn : (assignEach es X.env).length = n := by rfl) (hst : (assignEach es X.env).findIdx? (·.1) = none := by rfl) : MG X E (.Tuple es k pos) (gTp n gr) := by
  obtain ⟨t, q, r⟩ := h.ex
  refine ⟨_, pg_tup hc q hn hst, fun v d sl σ w Q o rv s hq => ?_⟩
  cases d with
  | tup ds =>
    obtain ⟨hl, hq⟩ := post_ite (p := ds.length = n) hq
    obtain ⟨a, xs, rfl, f, rs⟩ := rv.tup_inv
    exact ⟨a, xs, rfl, SqT.of (o.sub _ _ f), by rw [rs.length]; exact hl, r xs ds sl σ w Q o rs s hq⟩
  | _ => exact hq.elim

/-! ### blocks -/
def sNext : FS := fun sl st => ret (.nx sl) st
def sSeq (g1 g2 : FS) : FS := fun sl st => bnd (g1 sl st) fun f st => match f with
  | .nx sl => g2 sl st
  | f => ret f st
theorem mss_nil : MSs X E [] sNext := ⟨_, pss_nil, fun sl σ w D o s h => postS_ret o h σ s⟩
theorem FlOk.nx_of {D D' : Ends} {w : Ws} {f : Fl} (hr : D.rt = D'.rt) (hb : D.bk = D'.bk) (hc : D.ct = D'.ct) (hn : ∀ sl, f = .nx sl → FlOk K D' w f) (h : FlOk K D w f) : FlOk K D' w f := by
  cases f with
  | nx sl => exact hn sl rfl
  | rt d => exact fun v r => hr ▸ h v r
  | bk sl => exact fun v r => hb ▸ h v r
  | ct sl => exact fun v r => hc ▸ h v r
theorem ref_seq (h1 : RefS K E t g1) (h2 : RefS K E u g2) : RefS K E (tSeq t u) (sSeq g1 g2) := fun sl σ w D o s h => by
  refine h1 sl σ w _ o s (postS_bnd h fun f w1 o1 s1 hf => ?_)
  cases f with
  | nx sl' => exact fun σ' s' => h2 sl' σ' w1 D o1 s' hf
  | rt d => exact postS_ret (E := E) o1 hf
  | bk sl' => exact postS_ret (E := E) o1 hf
  | ct sl' => exact postS_ret (E := E) o1 hf
theorem mss_cons (h1 : MS X E st g1) (h2 : MSs X E sts g2) : MSs X E (st :: sts) (sSeq g1 g2) := by
  obtain ⟨t, p, q⟩ := h1.ex
  obtain ⟨t', p', q'⟩ := h2.ex
  exact ⟨_, pss_cons p p', ref_seq q q'⟩
theorem mss_one (h1 : MS X E st g1) : MSs X E [st] g1 := by
  obtain ⟨t, p, q⟩ := h1.ex
  exact ⟨_, pss_one p, q⟩
/-- the cell that a name holds is let be from here on -/
def frzAt (i : Nat) (sl : Sl) (st : Sto) : Option (Sl × Sto) := match gv sl i with
  | some (.ptr j) => match st[j]? with
    | some (some (.lst ds)) => some (sl.set i (some (.lst ds)), st.set j none)
    | some (some (.dct ds)) => some (sl.set i (some (.dct ds)), st.set j none)
    | some (some (.dcT ds)) => some (sl.set i (some (.dcT ds)), st.set j none)
    | _ => none
  | _ => some (sl, st)
def sFrz (i : Nat) (g : FS) : FS := fun sl st => match frzAt i sl st with
  | some (sl, st) => g sl st
  | none => none
theorem slots_same {w : Ws} {sl : Sl} {σ : St} {i : Nat} {v : V} {d : D} (s : Slots K w sl σ) (hσ : σ[i]? = some (some v)) (r : Rep K w.F w.al v d) : Slots K w (sl.set i (some d)) σ := by
  refine ⟨by rw [List.length_set]; exact s.len, fun j e q => ?_⟩
  by_cases hj : i = j
  · subst hj
    by_cases hi : i < sl.length
    · rw [List.getElem?_set_self hi] at q
      cases q; exact ⟨v, hσ, r⟩
    · rw [List.getElem?_eq_none (by rw [List.length_set]; omega)] at q; cases q
  · rw [List.getElem?_set_ne hj] at q
    exact s.get j e q
theorem ref_frz (i : Nat) (h : RefS K E t g) : RefS K E t (sFrz i g) := fun sl σ w D o s hp => by
  have hp : PostS K E w (match frzAt i sl w.st with
    | some (sl, st) => g sl st
    | none => none) D := hp
  unfold frzAt at hp
  cases e : gv sl i with
  | none => rw [e] at hp; exact h sl σ w D o s hp
  | some d =>
    rw [e] at hp
    cases d with
    | ptr j =>
      obtain ⟨v, hσ, rv⟩ := s.get i _ (gv_some e)
      cases q : w.st[j]? with
      | none => simp only [q] at hp; exact hp.elim
      | some oc =>
        cases oc with
        | none => simp only [q] at hp; exact hp.elim
        | some c =>
          obtain ⟨a, rfl, ha, hF, ca⟩ := cell_at o rv q
          have lj : Live w.st j := ⟨c, q⟩
          cases c with
          | lst ds =>
            simp only [q] at hp
            cases ca with
            | @lst xs _ hx rs =>
              have o1 := ok_frz o lj ha hx
              have s1 := step_frz (u := .lst xs) o lj ha
              refine h _ σ (w.frz j a _) D o1 (slots_same (s.step s1) hσ (.lst (show upd w.F a _ a = _ from upd_same) (rs.mono s1.le s1.pre))) (PostS.step s1 hp)
          | dct ds =>
            simp only [q] at hp
            cases ca with
            | @dct kvs _ hx ek rs =>
              have o1 := ok_frz o lj ha hx
              have s1 := step_frz (u := .dK kvs) o lj ha
              refine h _ σ (w.frz j a _) D o1 (slots_same (s.step s1) hσ (.dct (.inl (show upd w.F a _ a = _ from upd_same)) ek (rs.mono s1.le s1.pre))) (PostS.step s1 hp)
          | dcT ds =>
            simp only [q] at hp
            cases ca with
            | @dcT kvs _ hx ek rs =>
              have o1 := ok_frz o lj ha hx
              have s1 := step_frz (u := .dT kvs) o lj ha
              refine h _ σ (w.frz j a _) D o1 (slots_same (s.step s1) hσ (.dcT (.inl (show upd w.F a _ a = _ from upd_same)) ek (rs.mono s1.le s1.pre))) (PostS.step s1 hp)
          | ins C fs => simp only [q] at hp; exact hp.elim
    | _ => exact h sl σ w D o s hp
theorem mss_frz (i : Nat) (h : MSs X E sts g) : MSs X E sts (sFrz i g) := by
  obtain ⟨t, p, q⟩ := h.ex
  exact ⟨_, p, ref_frz i q⟩
/-! ### simple statements -/
def sAsg (f : FE) (g : FG) : FS := fun sl st => bnd (f sl st) fun d st => bnd (g d sl st) fun sl st => ret (.nx sl) st
theorem ref_asg {tg : TG} {gg : FG} (h : RefE K E ta fa) (hg : RefG K E tg gg) : RefS K E (tAsg ta tg) (sAsg fa gg) := fun sl σ w D o s hp => by
  refine h sl σ w _ o s (post_bndS hp fun v x w1 o1 s1 r h1 => ?_)
  refine hg v x sl σ w1 _ o1 r (s.step s1) (post_bndS h1 fun σ' sl' w2 o2 s2 r2 h2 => ?_)
  exact postS_ret o2 h2 σ' r2
theorem ms_asg {tg : Expr} {gg : FG} (he : ME X E e fa) (hg : MG X E tg gg) (hs : swapsWithSole [tg] e pos.line X.env = pure false := by rfl) (hw : swappedStores [tg] e X.env = pure none := by rfl) (h1 : (assignEach [tg] X.env).map (·.2) = [assign tg X.env] := by rfl) : MS X E (.Assign [tg] e pos) (sAsg fa gg) := by
  obtain ⟨t, p, q⟩ := he.ex
  obtain ⟨t', p', q'⟩ := hg.ex
  exact ⟨_, ps_asg p p' hs hw (h1 := h1), ref_asg q q'⟩
theorem ms_set {i : Nat} {x : Str} {pos' : Pos} (hN : X.N.Nodup) (he : ME X E e fa) (hi : X.N[i]? = some x := by rfl) (hx : Loc X.env.scope x := by first | exact Or.inl rfl | exact Or.inr rfl) (hs : swapsWith e (some (.Name x pos')) pos.line X.env = pure false := by rfl)
    (hf : X.fn x = true ∨ X.env.scope.names.lookup x = some .local := by first | exact .inl rfl | exact .inr rfl | assumption) : MS X E (.Assign [.Name x pos'] e pos) (sAsg fa (gNm i)) := by
  obtain ⟨t, p, q⟩ := he.ex
  refine ⟨_, ps_set hN hi hx p hs hf, ref_asg q fun v d sl σ w Q o r s h => h (σ.set i (some v)) w rfl o (Step.refl w) (s.set r)⟩
def sDrop (f : FE) : FS := fun sl st => bnd (f sl st) fun _ st => ret (.nx sl) st
theorem ms_expr (he : ME X E e fa) (hs : swapsWith e none pos.line X.env = pure false := by rfl) : MS X E (.Expr e pos) (sDrop fa) := by
  obtain ⟨t, p, q⟩ := he.ex
  refine ⟨_, ps_expr p hs, fun sl σ w D o s hp => ?_⟩
  exact q sl σ w _ o s (post_bndS hp fun v x w1 o1 s1 r h1 => postS_ret o1 h1 σ (s.step s1))
def sRet (f : FE) : FS := fun sl st => bnd (f sl st) fun d st => ret (.rt d) st
theorem ms_ret (he : ME X E e fa) : MS X E (.Return (some e) pos) (sRet fa) := by
  obtain ⟨t, p, q⟩ := he.ex
  refine ⟨_, ps_ret p, fun sl σ w D o s hp => ?_⟩
  exact q sl σ w _ o s (post_bndS hp fun v x w1 o1 s1 r h1 => postS_ret o1 h1 v r)
def sRetN : FS := fun sl st => ret (.rt .non) st
theorem ms_retN : MS X E (.Return none pos) sRetN := ⟨_, ps_retN, fun sl σ w D o s hp => postS_ret o hp _ .non⟩
theorem ms_pass : MS X E (.Pass pos) sNext := ⟨_, ps_pass, fun sl σ w D o s h => postS_ret o h σ s⟩
theorem ms_doc {x j pos'} : MS X E (.Expr (.Constant (.str x) j pos) pos') sNext := ⟨_, ps_doc, fun sl σ w D o s h => postS_ret o h σ s⟩
def sBrk : FS := fun sl st => ret (.bk sl) st
def sCnt : FS := fun sl st => ret (.ct sl) st
theorem ms_brk : MS X E (.Break pos) sBrk := ⟨_, ps_break, fun sl σ w D o s h => postS_ret o h σ s⟩
theorem ms_cnt : MS X E (.Continue pos) sCnt := ⟨_, ps_continue, fun sl σ w D o s h => postS_ret o h σ s⟩
def sIf (c : FT) (g1 g2 : FS) : FS := fun sl st => bnd (c sl st) fun k st => cond k (g1 sl st) (g2 sl st)
theorem ref_if {tc : TT} (hc : RefT K E tc ga) (h1 : RefS K E t g1) (h2 : RefS K E u g2) : RefS K E (tIfS tc t u) (sIf ga g1 g2) := fun sl σ w D o s h => by
  refine hc sl σ w _ o s (post_bndS h fun v x w1 o1 s1 r hp => ?_)
  have r : v = x := r
  subst r
  cases v with
  | true => exact (if_pos rfl).mpr (h1 sl σ w1 D o1 (s.step s1) hp)
  | false => exact (if_neg Bool.false_ne_true).mpr (h2 sl σ w1 D o1 (s.step s1) hp)
theorem ms_if {s1 s2 : List Stmt} (hc : MT X E c ga) (h1 : MSs X E s1 g1) (h2 : MSs X E s2 g2) : MS X E (.If c s1 s2 pos) (sIf ga g1 g2) := by
  obtain ⟨t, p, q⟩ := hc.ex
  obtain ⟨t1, p1, q1⟩ := h1.ex
  obtain ⟨t2, p2, q2⟩ := h2.ex
  exact ⟨_, ps_if p p1 p2, ref_if q q1 q2⟩
/-! x += e, x -= e on whole numbers (and texts) -/
def sAug (i : Nat) (f : FE) (op : Sto → D → D → MM D) : FS := fun sl st => match gv sl i with
  | some x => bnd (f sl st) fun y st => bnd (op st x y) fun z st => ret (.nx (sl.set i (some z))) st
  | none => none
def RfIp (K : PySem.W.Frag) (E : XK) (ti : TIp) (g : Sto → D → D → MM D) : Prop := ∀ x y dx dy w (Q : VK), Ok K w → Rep K w.F w.al x dx → Rep K w.F w.al y dy → Post K E (rD K) w (g w.st dx dy) Q → ti x y w.H Q
theorem ms_aug {i : Nat} {x : Str} {op : Operator} {ti : TIp} {gi : Sto → D → D → MM D} {pos' : Pos} (hN : X.N.Nodup) (he : ME X E e fa) (ho : PIp X op ti) (hr : RfIp X.K E ti gi) (hi : X.N[i]? = some x := by rfl) (hx : Loc X.env.scope x := by first | exact Or.inl rfl | exact Or.inr rfl)
    (hf : X.fn x = true ∨ X.env.scope.names.lookup x = some .local := by first | exact .inl rfl | exact .inr rfl | assumption) : MS X E (.AugAssign (.Name x pos') op e pos) (sAug i fa gi) := by
  obtain ⟨t, p, q⟩ := he.ex
  refine ⟨_, ps_aug hN hi hx p ho hf, fun sl σ w D o s hp => ?_⟩
  have hp : PostS X.K E w (match gv sl i with
    | some x => bnd (fa sl w.st) fun y st => bnd (gi st x y) fun z st => ret (.nx (sl.set i (some z))) st
    | none => none) D := hp
  cases eg : gv sl i with
  | none => rw [eg] at hp; exact hp.elim
  | some d =>
    rw [eg] at hp
    obtain ⟨v, h1, h2⟩ := s.get i d (gv_some eg)
    refine ⟨v, h1, q sl σ w _ o s (post_bndS hp fun y dy w1 o1 s1 ry hp1 => ?_)⟩
    refine hr v y d dy w1 _ o1 (h2.mono s1.le s1.pre) ry (post_bndS hp1 fun z dz w2 o2 s2 rz hp2 => ?_)
    exact postS_ret o2 hp2 _ (((s.step s1).step s2).set rz)
theorem rip_I {f : Int → Int → Int} : RfIp K E (ipI f) (gI0 fun i j => .int (f i j)) := fun x y dx dy w Q o rx ry hp => by
  cases dx with
  | int i =>
    cases dy with
    | int j => exact ⟨i, j, rx.int_inv, ry.int_inv, post_ret o (.int _) hp⟩
    | _ => exact hp.elim
  | _ => exact hp.elim
end
end M

namespace M
open PySem L2
/-- what a walk gives, whatever is done meanwhile to other things: ds, one behind the other -/
def SeqIt (K : PySem.W.Frag) (w : Ws) (J : It) (ds : List D) : Prop := ∀ w', Ok K w' → Step w w' → J.stop ds.length w'.H ∧
  ∀ i d, ds[i]? = some d → J.go i w'.H ∧ ∀ x H', J.yld i w'.H x H' → ∃ w'', w''.H = H' ∧ w''.st = w'.st ∧ Ok K w'' ∧ Step w' w'' ∧ Rep K w''.F w''.al x d
structure MI (X : Cx) (E : XK) (tg iter : Expr) (f : FA) : Prop where
  ex : ∃ wi, PI X tg iter wi ∧ ∀ sl σ w (R : It → Hp → Prop), Ok X.K w → Slots X.K w sl σ → Post X.K E (fun w J ds => SeqIt X.K w J ds) w (f sl w.st) R → wi σ w.H R
def forL (tg : FG) (body : FS) : List D → Sl → Sto → MM Fl
  | [], sl, st => ret (.nx sl) st
  | d :: ds, sl, st => bnd (tg d sl st) fun sl st => bnd (body sl st) fun f st => match f with
    | .nx sl => forL tg body ds sl st
    | .ct sl => forL tg body ds sl st
    | .bk sl => ret (.nx sl) st
    | .rt d => ret (.rt d) st
def sFor (it : FA) (tg : FG) (body : FS) : FS := fun sl st => bnd (it sl st) fun ds st => forL tg body ds sl st
theorem step_same {w w' : Ws} (h : w'.st = w.st) (l : w'.st.length = w.st.length) : w'.st = w.st := h
section
variable {X : Cx} {E : XK} {K : PySem.W.Frag} {a b c e o : Expr} {es rest : List Expr} {fa fb fc : FE} {fs : FA} {ta tb tc : TE} {pos : Pos} {tg iter : Expr} {body : List Stmt}
theorem ms_for {fi : FA} {gt : FG} {gb : FS} (hp : PassesOwn (model X.prog X.w) X.A X.env X.xe) (hc : X.calm = true) (hi : MI X E tg iter fi) (hg : MG X E tg gt) (hb : MSs X E body gb) (hs : ∀ x, foldedSetIterable iter X.env x = pure x := by intro _; rfl) : MS X E (.For tg iter body [] pos) (sFor fi gt gb) := by
  obtain ⟨wi, p, q⟩ := hi.ex
  obtain ⟨t1, p1, q1⟩ := hg.ex
  obtain ⟨t2, p2, q2⟩ := hb.ex
  refine ⟨_, ps_for hp hc p p1 p2 hs, fun sl σ w D o s h => ?_⟩
  refine q sl σ w _ o s (post_bndS h fun J ds w1 o1 s1 hJ hp => ?_)
  refine ⟨fun i m σ H => i + m = ds.length ∧ ∃ w' sl', w'.H = H ∧ Ok X.K w' ∧ Step w1 w' ∧ Slots X.K w' sl' σ ∧ PostS X.K E w' (forL gt gb (ds.drop i) sl' w'.st) D,
    ⟨ds.length, by omega, w1, sl, rfl, o1, Step.refl _, s.step s1, hp⟩, fun i m σ H ⟨em, w', sl', eH, o', st', sls, hW⟩ => ?_⟩
  subst eH
  obtain ⟨hstop, hgo⟩ := hJ w' o' st'
  cases m with
  | zero =>
    have ei : i = ds.length := by omega
    subst ei
    rw [List.drop_length] at hW
    exact .inl ⟨hstop, postS_ret o' hW σ sls⟩
  | succ m =>
    have hi : i < ds.length := by omega
    have ed : ds[i]? = some ds[i] := List.getElem?_eq_getElem hi
    obtain ⟨g1, g2⟩ := hgo i _ ed
    refine .inr ⟨g1, fun σ2 H2 => ∃ w2 sl2, w2.H = H2 ∧ Ok X.K w2 ∧ Step w1 w2 ∧ Slots X.K w2 sl2 σ2 ∧ PostS X.K E w2 (forL gt gb (ds.drop (i + 1)) sl2 w2.st) D, fun σ2 H2 ⟨w2, sl2, e2, o2, st2, s2, hW2⟩ => ⟨m, by omega, by omega, w2, sl2, e2, o2, st2, s2, hW2⟩, fun x H' hy => ?_⟩
    obtain ⟨w2, rfl, est, o2, st2, rx⟩ := g2 x H' hy
    rw [List.drop_eq_getElem_cons hi] at hW
    have hW2 := PostS.step st2 hW
    have hW2 : PostS X.K E w2 (bnd (gt ds[i] sl' w2.st) fun sl st => bnd (gb sl st) fun f st => match f with
      | .nx sl => forL gt gb (ds.drop (i + 1)) sl st
      | .ct sl => forL gt gb (ds.drop (i + 1)) sl st
      | .bk sl => ret (.nx sl) st
      | .rt d => ret (.rt d) st) D := by rw [est]; exact hW2
    refine q1 x ds[i] sl' σ w2 _ o2 rx (sls.step st2) (post_bndS hW2 fun σ3 sl3 w3 o3 s3 r3 h3 => ?_)
    refine q2 sl3 σ3 w3 _ o3 r3 (postS_bnd h3 fun f w4 o4 s4 h4 => ?_)
    have s14 : Step w1 w4 := ((st'.trans st2).trans s3).trans s4
    cases f with
    | nx sl4 => exact fun σ4 z => ⟨w4, sl4, rfl, o4, s14, z, h4⟩
    | ct sl4 => exact fun σ4 z => ⟨w4, sl4, rfl, o4, s14, z, h4⟩
    | bk sl4 => exact fun σ4 z => postS_ret (E := E) o4 h4 σ4 z
    | rt d => exact fun v z => postS_ret (E := E) o4 h4 v z
/-! ### what is walked -/
/-- the items of a list that is not changed -/
def seqOf : D → Option (List D)
  | .lst ds => some ds
  | .scr ns => some (ns.map .int)
  | _ => none
theorem seqOf_rep {w : Ws} {v : V} {d : D} {ds : List D} (r : Rep K w.F w.al v d) (h : seqOf d = some ds) : ∃ a xs, v = .ref a ∧ SqL K w.F a xs ∧ Reps K w.F w.al xs ds := by
  cases d with
  | lst es =>
    obtain ⟨a, xs, e, f, rs⟩ := r.lst_inv
    cases h
    exact ⟨a, xs, e, SqL.of f, rs⟩
  | scr ns =>
    obtain ⟨a, e, s⟩ := r.scr_inv
    cases h
    exact ⟨a, _, e, s, reps_ints ns⟩
  | _ => cases h
theorem Step.sqL {w w' : Ws} (o : Ok K w') (s : Step w w') {a : Addr} {xs : List V} (h : SqL K w.F a xs) : SqL K w'.H a xs := sub_sqL o (s.le.sqL h)
theorem seq_list {w : Ws} {a : Addr} {xs : List V} {ds : List D} (h : SqL K w.F a xs) (r : Reps K w.F w.al xs ds) : SeqIt K w (Itl K a) ds := fun w' o s => by
  have h' := s.sqL o h
  refine ⟨⟨xs, h', Nat.le_of_eq r.length⟩, fun i d e => ?_⟩
  obtain ⟨v, e1, e2⟩ := r.get e
  refine ⟨⟨xs, v, h', e1⟩, fun x H' hy => ?_⟩
  obtain ⟨rfl, hx⟩ := hy
  have ex : x = v := Option.some.inj ((hx xs h').symm.trans e1)
  subst ex
  exact ⟨w', rfl, rfl, o, Step.refl _, e2.mono s.le s.pre⟩
def iL (f : FE) : FA := fun sl st => bnd (f sl st) fun d st => match seqOf d with
  | some ds => ret ds st
  | none => none
theorem mi_list (h : ME X E e fa) : MI X E tg e (iL fa) := by
  obtain ⟨t, p, q⟩ := h.ex
  refine ⟨_, pi_list p, fun sl σ w R o s h => ?_⟩
  refine q sl σ w _ o s (post_bnd h fun v d w1 o1 s1 r hp => ?_)
  cases hd : seqOf d with
  | none => rw [hd] at hp; exact hp.elim
  | some ds =>
    rw [hd] at hp
    obtain ⟨a, xs, rfl, h1, rs⟩ := seqOf_rep r hd
    exact ⟨a, rfl, ⟨xs, sub_sqL o1 h1⟩, post_ret (rp := fun w J ds => SeqIt X.K w J ds) o1 (seq_list h1 rs) hp⟩
def iT (f : FE) : FA := fun sl st => bnd (f sl st) fun d st => match d with
  | .tup ds => ret ds st
  | _ => none
theorem seq_tup {w : Ws} {a : Addr} {xs : List V} {ds : List D} (h : w.F a = some (.tup xs)) (r : Reps K w.F w.al xs ds) : SeqIt K w (Itt K a) ds := fun w' o s => by
  have h' : SqT K w'.H a xs := SqT.of (o.sub _ _ (s.le.tup _ _ h))
  refine ⟨⟨xs, h', Nat.le_of_eq r.length⟩, fun i d e => ?_⟩
  obtain ⟨v, e1, e2⟩ := r.get e
  refine ⟨⟨xs, v, h', e1⟩, fun x H' hy => ?_⟩
  obtain ⟨rfl, hx⟩ := hy
  have ex : x = v := Option.some.inj ((hx xs h').symm.trans e1)
  subst ex
  exact ⟨w', rfl, rfl, o, Step.refl _, e2.mono s.le s.pre⟩
theorem mi_tup (h : ME X E e fa) : MI X E tg e (iT fa) := by
  obtain ⟨t, p, q⟩ := h.ex
  refine ⟨_, pi_tup p, fun sl σ w R o s h => ?_⟩
  refine q sl σ w _ o s (post_bnd h fun v d w1 o1 s1 r hp => ?_)
  cases d with
  | tup ds =>
    obtain ⟨a, xs, rfl, f, rs⟩ := r.tup_inv
    exact ⟨a, rfl, ⟨xs, SqT.of (o1.sub _ _ f)⟩, post_ret (rp := fun w J ds => SeqIt X.K w J ds) o1 (seq_tup f rs) hp⟩
  | _ => exact hp.elim
def rngD (lo : Int) (n : Nat) : List D := (List.range n).map fun (i : Nat) => .int (lo + i)
theorem seq_rng {w : Ws} (lo : Int) (n : Nat) : SeqIt K w (Itr lo n) (rngD lo n) := fun w' o s => by
  have el : (rngD lo n).length = n := by unfold rngD; rw [List.length_map, List.length_range]
  refine ⟨by rw [el]; exact Nat.le_refl _, fun i d e => ?_⟩
  unfold rngD at e
  rw [List.getElem?_map] at e
  have hi : i < n := by
    by_cases z : i < n
    · exact z
    · rw [List.getElem?_eq_none (by rw [List.length_range]; omega)] at e; cases e
  rw [List.getElem?_range hi] at e
  cases e
  refine ⟨hi, fun x H' hy => ?_⟩
  obtain ⟨rfl, rfl⟩ := hy
  exact ⟨w', rfl, rfl, o, Step.refl _, .int _⟩
def iR1 (f : FA) : FA := fun sl st => bnd (f sl st) fun ds st => match ds with
  | [.int j] => if -(2 ^ 62) ≤ j ∧ j < 2 ^ 62 then ret (rngD 0 j.toNat) st else none
  | _ => none
def iR2 (f : FA) : FA := fun sl st => bnd (f sl st) fun ds st => match ds with
  | [.int i, .int j] => if -(2 ^ 62) ≤ i ∧ i < 2 ^ 62 ∧ -(2 ^ 62) ≤ j ∧ j < 2 ^ 62 then ret (rngD i (j - i).toNat) st else none
  | _ => none
theorem mi_range1 {p : Pos} (ha : MA X E [a] fs) (hm : X.mg "range" = none) (hg : Gl X "range" := by rfl) (hs : starEach [a] X.env = [(false, eval a X.env)] := by rfl) : MI X E tg (.Call (.Name "range" p) [a] [] pos) (iR1 fs) := by
  obtain ⟨t, p, q⟩ := ha.ex
  refine ⟨_, pi_range1 hg hm p hs, fun sl σ w R o s h => ?_⟩
  refine q sl σ w _ o s (post_bnd h fun vs ds w1 o1 s1 r hp => ?_)
  split at hp
  · rename_i j
    obtain ⟨x, rfl, rx⟩ := r.one_inv
    obtain ⟨hc, hp⟩ := post_ite (p := -(2 ^ 62) ≤ j ∧ j < 2 ^ 62) hp
    exact ⟨j, by rw [rx.int_inv], hc.1, hc.2, post_ret (rp := fun w J ds => SeqIt X.K w J ds) o1 (seq_rng _ _) hp⟩
  · exact hp.elim
theorem mi_range2 {p : Pos} (ha : MA X E [a, b] fs) (hm : X.mg "range" = none) (hg : Gl X "range" := by rfl) (hs : starEach [a, b] X.env = [(false, eval a X.env), (false, eval b X.env)] := by rfl) (hs2 : starEach [b] X.env = [(false, eval b X.env)] := by rfl) : MI X E tg (.Call (.Name "range" p) [a, b] [] pos) (iR2 fs) := by
  obtain ⟨t, p, q⟩ := ha.ex
  refine ⟨_, pi_range2 hg hm p hs hs2, fun sl σ w R o s h => ?_⟩
  refine q sl σ w _ o s (post_bnd h fun vs ds w1 o1 s1 r hp => ?_)
  split at hp
  · rename_i i j
    obtain ⟨x, y, rfl, rx, ry⟩ := r.two_inv
    obtain ⟨hc, hp⟩ := post_ite (p := -(2 ^ 62) ≤ i ∧ i < 2 ^ 62 ∧ -(2 ^ 62) ≤ j ∧ j < 2 ^ 62) hp
    exact ⟨i, j, by rw [rx.int_inv, ry.int_inv], hc, post_ret (rp := fun w J ds => SeqIt X.K w J ds) o1 (seq_rng _ _) hp⟩
  · exact hp.elim
def chrD (x : Str) : List D := x.cps.toList.map fun c => .str ⟨#[c]⟩
theorem seq_str {w : Ws} (x : Str) : SeqIt K w (Its x) (chrD x) := fun w' o s => by
  have el : (chrD x).length = x.cps.size := by unfold chrD; rw [List.length_map]; rfl
  refine ⟨by rw [el]; exact Nat.le_refl _, fun i d e => ?_⟩
  unfold chrD at e
  rw [List.getElem?_map] at e
  cases q : x.cps.toList[i]? with
  | none => rw [q] at e; cases e
  | some c =>
    rw [q] at e; cases e
    have hi : i < x.cps.size := by
      have := (List.getElem?_eq_some_iff.mp q).1
      rwa [Array.length_toList] at this
    refine ⟨hi, fun v H' hy => ?_⟩
    obtain ⟨rfl, c', hc, rfl⟩ := hy
    rw [← Array.getElem?_toList, q] at hc
    cases hc
    exact ⟨w', rfl, rfl, o, Step.refl _, .str _⟩
def iS (f : FE) : FA := fun sl st => bnd (f sl st) fun d st => match d with
  | .str x => ret (chrD x) st
  | _ => none
theorem mi_str (h : ME X E e fa) : MI X E tg e (iS fa) := by
  obtain ⟨t, p, q⟩ := h.ex
  refine ⟨_, pi_str p, fun sl σ w R o s h => ?_⟩
  refine q sl σ w _ o s (post_bnd h fun v d w1 o1 s1 r hp => ?_)
  cases d with
  | str x => exact ⟨x, r.str_inv, post_ret (rp := fun w J ds => SeqIt X.K w J ds) o1 (seq_str x) hp⟩
  | _ => exact hp.elim
/-- pairs of an index and an item -/
def enumD (ds : List D) : List D := ds.zipIdx.map fun p => .tup [.int p.2, p.1]
theorem seq_enum {w : Ws} {a : Addr} {xs : List V} {ds : List D} (h : SqL K w.F a xs) (r : Reps K w.F w.al xs ds) : SeqIt K w (Ite K a) (enumD ds) := fun w' o s => by
  have h' := s.sqL o h
  have el : (enumD ds).length = ds.length := by unfold enumD; rw [List.length_map, List.length_zipIdx]
  refine ⟨⟨xs, h', by rw [el]; exact Nat.le_of_eq r.length⟩, fun i d e => ?_⟩
  unfold enumD at e
  rw [List.getElem?_map, List.getElem?_zipIdx] at e
  cases q : ds[i]? with
  | none => rw [q] at e; cases e
  | some d0 =>
    rw [q] at e
    simp only [Option.map_some, Option.some.injEq] at e
    subst e
    obtain ⟨v, e1, e2⟩ := r.get q
    refine ⟨⟨xs, v, h', e1⟩, fun x H' hy => ?_⟩
    obtain ⟨T, y, rfl, nT, rfl, hx⟩ := hy
    have ex : y = v := Option.some.inj ((hx xs h').symm.trans e1)
    subst ex
    have s2 := step_newV o nT (.tup [.int (i : Nat), y])
    refine ⟨w'.newV T (.tup [.int (i : Nat), y]), rfl, rfl, ok_newV o nT _, s2, .tup (show upd w'.F T _ T = _ from upd_same) (.cons ?_ (.cons ((e2.mono s.le s.pre).mono s2.le s2.pre) .nil))⟩
    rw [Nat.zero_add]
    exact .int _
def iE (f : FA) : FA := fun sl st => bnd (f sl st) fun ds st => match ds with
  | [d] => match seqOf d with
    | some ds => ret (enumD ds) st
    | none => none
  | _ => none
theorem mi_enum {elts : List Expr} {kk : Nat} {tpos p : Pos} (ha : MA X E [e] fs) (hm : X.mg "enumerate" = none) (hg : Gl X "enumerate" := by rfl) (hs : starEach [e] X.env = [(false, eval e X.env)] := by rfl) : MI X E (.Tuple elts kk tpos) (.Call (.Name "enumerate" p) [e] [] pos) (iE fs) := by
  obtain ⟨t, p, q⟩ := ha.ex
  refine ⟨_, pi_enum hg hm p hs, fun sl σ w R o s h => ?_⟩
  refine q sl σ w _ o s (post_bnd h fun vs ds w1 o1 s1 r hp => ?_)
  split at hp
  · rename_i d
    obtain ⟨x, rfl, rx⟩ := r.one_inv
    cases hd : seqOf d with
    | none => rw [hd] at hp; exact hp.elim
    | some ds =>
      rw [hd] at hp
      obtain ⟨a, xs, rfl, h1, rs⟩ := seqOf_rep rx hd
      exact ⟨a, xs, rfl, sub_sqL o1 h1, post_ret (rp := fun w J ds => SeqIt X.K w J ds) o1 (seq_enum h1 rs) hp⟩
  · exact hp.elim
end
end M

namespace M
open PySem PySem.Spec PyProof.Rows L2
/-! ### data without cells -/
mutual
def pf : D → Bool
  | .tup ds => pfs ds
  | .lst ds => pfs ds
  | .dct kvs => pfk kvs
  | .dcT kvs => pft kvs
  | .ptr _ => false
  | .non => true
  | .bl _ => true
  | .int _ => true
  | .str _ => true
  | .scr _ => true
  | .gtp ds => pfs ds
  | .fnc _ => true
def pfs : List D → Bool
  | [] => true
  | d :: r => pf d && pfs r
def pfk : List (Key × D) → Bool
  | [] => true
  | (_, d) :: r => pf d && pfk r
def pft : List (List Key × D) → Bool
  | [] => true
  | (_, d) :: r => pf d && pft r
end
theorem pfk_eq : ∀ kvs : List (Key × D), pfk kvs = pfs (kvs.map (·.2))
  | [] => by simp [pfk, pfs]
  | (_, d) :: r => by simp [pfk, pfs, pfk_eq r]
theorem pft_eq : ∀ kvs : List (List Key × D), pft kvs = pfs (kvs.map (·.2))
  | [] => by simp [pft, pfs]
  | (_, d) :: r => by simp [pft, pfs, pft_eq r]
section
variable {K : PySem.W.Frag} {F : Hp} {α β : List Addr}
mutual
theorem Rep.any : ∀ {v : V} {d : D}, Rep K F α v d → pf d = true → Rep K F β v d
  | _, _, .non, _ => .non
  | _, _, .bl b, _ => .bl b
  | _, _, .int i, _ => .int i
  | _, _, .str s, _ => .str s
  | _, _, .tup h r, p => .tup h (Reps.any r (by rw [pf] at p; exact p))
  | _, _, .lst h r, p => .lst h (Reps.any r (by rw [pf] at p; exact p))
  | _, _, .dct h e r, p => .dct h e (Reps.any r (by rw [pf, pfk_eq] at p; exact p))
  | _, _, .dcT h e r, p => .dcT h e (Reps.any r (by rw [pf, pft_eq] at p; exact p))
  | _, _, .ptr h, p => by rw [pf] at p; exact absurd p Bool.false_ne_true
  | _, _, .scr h, _ => .scr h
  | _, _, .gtp h r, p => .gtp h (Reps.any r (by rw [pf] at p; exact p))
  | _, _, .fnc a, _ => .fnc a
theorem Reps.any : ∀ {vs : List V} {ds : List D}, Reps K F α vs ds → pfs ds = true → Reps K F β vs ds
  | _, _, .nil, _ => .nil
  | _, _, .cons h r, p => by
    rw [pfs, Bool.and_eq_true] at p
    exact .cons (Rep.any h p.1) (Reps.any r p.2)
end
end
def pfC : Cell → Bool
  | .lst ds => pfs ds
  | .dct kvs => pfk kvs
  | .dcT kvs => pft kvs
  | .ins _ fs => pfs (fs.map (·.2))
theorem CellAt.any {K : PySem.W.Frag} {F H : Hp} {α β : List Addr} {a : Addr} {c : Cell} (h : CellAt K F α H a c) (p : pfC c = true) : CellAt K F β H a c := by
  cases h with
  | lst h r => exact .lst h (r.any p)
  | dct h e r => exact .dct h e (r.any (by rw [pfC, pfk_eq] at p; exact p))
  | dcT h e r => exact .dcT h e (r.any (by rw [pfC, pft_eq] at p; exact p))
  | ins h e r => exact .ins h e (r.any p)
/-! ### a def's promise, by a plain function -/
def spM (K : PySem.W.Frag) (n : Nat) (m : List D → Sto → MM D) : Sp := fun vs H Q E => ∃ w ds, w.H = H ∧ Ok K w ∧ Reps K w.F w.al vs ds ∧ ds.length = n ∧ Post K E (rD K) w (m ds w.st) Q
theorem spM_len {K : PySem.W.Frag} {n : Nat} {m : List D → Sto → MM D} {vs : List V} {H : Hp} {Q : VK} {E : XK} (h : spM K n m vs H Q E) : vs.length = n := by
  obtain ⟨w, ds, _, _, r, e, _⟩ := h
  rw [r.length]; exact e
/-- how a caller may call it -/
def CallF (K : PySem.W.Frag) (E : XK) (n : Nat) (m c : List D → Sto → MM D) : Prop := ∀ w vs ds (Q : VK), Ok K w → Reps K w.F w.al vs ds → Post K E (rD K) w (c ds w.st) Q → spM K n m vs w.H Q E
def callA (n : Nat) (m : List D → Sto → MM D) : List D → Sto → MM D := fun ds st => if ds.length = n then m ds st else none
theorem callf_A {K : PySem.W.Frag} {E : XK} {n : Nat} {m : List D → Sto → MM D} : CallF K E n m (callA n m) := fun w vs ds Q o r h => by
  obtain ⟨e, h⟩ := post_ite h
  exact ⟨w, ds, rfl, o, r, e, h⟩
section
variable {K : PySem.W.Frag} {w wc w' : Ws}
/-- a part of the world was handed on, and came back -/
theorem core (o : Ok K w) (hF : wc.F = w.F) (hH : wc.H = w.H) (hsub : ∀ b, Own wc b → Own w b) (o' : Ok K w') (s : Step wc w') (st2 : Sto) (hlen : st2.length = w.st.length) (hlive : ∀ j, Live st2 j → Live w.st j)
    (hin : ∀ (j : Nat) b c, st2[j]? = some (some c) → w.al[j]? = some b → Own wc b → w'.F b = none ∧ CellAt K w'.F w.al w'.H b c) (hout : ∀ (j : Nat) b c, st2[j]? = some (some c) → w.al[j]? = some b → ¬ Own wc b → w.st[j]? = some (some c)) :
    Ok K ⟨st2, w.al, w'.F, w'.H⟩ ∧ Step w ⟨st2, w.al, w'.F, w'.H⟩ := by
  have hle : Le w.F w'.F := by rw [← hF]; exact s.le
  have fr : ∀ b x, w.H b = some x → ¬ Own wc b → w'.H b = some x := fun b x e n => s.frame b x (by rw [hH]; exact e) n
  have ol : ∀ b, w.H b ≠ none → (∀ xs, w.H b ≠ some (.tup xs)) → ¬ Own wc b → w'.F b = w.F b := fun b e t n => (s.old b (by rw [hH]; exact e) (by rw [hH]; exact t) n).trans (by rw [hF])
  refine ⟨⟨o.len.trans hlen.symm, o'.sub, fun j c h => ?_, fun i j a li lj => o.inj i j a (hlive i li) (hlive j lj)⟩, ⟨Pre.refl _, hle, fun b x e n => fr b x e fun z => n (hsub b z), fun b e t n => ol b e t fun z => n (hsub b z), fun b e => s.there b (by rw [hH]; exact e), fun b ⟨i, li, e⟩ => .inl ⟨i, hlive i li, e⟩⟩⟩
  obtain ⟨cj, hj⟩ := hlive j ⟨c, h⟩
  obtain ⟨b, eb, fb, cb⟩ := o.own j cj hj
  by_cases z : Own wc b
  · obtain ⟨h1, h2⟩ := hin j b c h eb z
    exact ⟨b, eb, h1, h2⟩
  · have q := hout j b c h eb z
    rw [q] at hj; cases hj
    refine ⟨b, eb, (ol b cb.some cb.notTup z).trans fb, cb.mono hle (Pre.refl _) ?_⟩
    cases r : w.H b with
    | none => exact absurd r cb.some
    | some x => exact fr b x r z
theorem adopt (o : Ok K w) {b : Addr} {c : Cell} (hb : ¬ Own w b) (hF : w.F b = none) (hc : CellAt K w.F (w.al ++ [b]) w.H b c) : Ok K ⟨w.st ++ [some c], w.al ++ [b], w.F, w.H⟩ := by
  have old : ∀ (i : Nat) a, Live w.st i → (w.al ++ [b])[i]? = some a → w.al[i]? = some a := fun i a l e => by
    rw [List.getElem?_append_left (by rw [o.len]; exact l.lt)] at e; exact e
  have new : ∀ (i : Nat) a, i = w.st.length → (w.al ++ [b])[i]? = some a → a = b := fun i a l e => by
    rw [List.getElem?_append_right (by rw [o.len, l]; exact Nat.le_refl _), o.len, l, Nat.sub_self] at e
    cases e; rfl
  refine ⟨?_, o.sub, fun i d h => ?_, fun i j a li lj ei ej => ?_⟩
  · show (w.al ++ [b]).length = (w.st ++ [some c]).length
    rw [List.length_append, List.length_append, o.len]; rfl
  · have h' : (w.st ++ [some c])[i]? = some (some d) := h
    by_cases z : i < w.st.length
    · rw [List.getElem?_append_left z] at h'
      obtain ⟨a, e, f, ca⟩ := o.own i d h'
      exact ⟨a, Pre.app _ _ _ _ e, f, ca.mono (Le.refl _) (Pre.app _ _) rfl⟩
    · have q := (List.getElem?_eq_some_iff.mp h').1
      rw [List.length_append, List.length_singleton] at q
      have ei : i = w.st.length := by omega
      subst ei
      rw [List.getElem?_append_right (Nat.le_refl _), Nat.sub_self] at h'
      cases h'
      refine ⟨b, ?_, hF, hc⟩
      show (w.al ++ [b])[w.st.length]? = some b
      rw [List.getElem?_append_right (by rw [o.len]; exact Nat.le_refl _), o.len, Nat.sub_self]; rfl
  · rcases live_app li with zi | zi <;> rcases live_app lj with zj | zj
    · exact o.inj i j a zi zj (old i a zi ei) (old j a zj ej)
    · exact absurd ⟨i, zi, by rw [← new j a zj ej]; exact old i a zi ei⟩ hb
    · exact absurd ⟨j, zj, by rw [← new i a zi ei]; exact old j a zj ej⟩ hb
    · rw [zi, zj]
theorem step_adopt {w1 : Ws} (s : Step w w1) {b : Addr} {c : Cell} (len : w1.al.length = w1.st.length) (hb : w.H b = none) : Step w ⟨w1.st ++ [some c], w1.al ++ [b], w1.F, w1.H⟩ := by
  refine ⟨s.pre.trans (Pre.app _ _), s.le, s.frame, s.old, s.there, fun x ⟨i, l, e⟩ => ?_⟩
  have e' : (w1.al ++ [b])[i]? = some x := e
  rcases live_app l with z | z
  · rw [List.getElem?_append_left (by rw [len]; exact z.lt)] at e'
    exact s.news x ⟨i, z, e'⟩
  · rw [List.getElem?_append_right (by rw [len, z]; exact Nat.le_refl _), len, z, Nat.sub_self] at e'
    cases e'
    exact .inr hb
end
/-- what is handed back: plain data, or one new cell -/
def outB (d : D) (cs : Sto) (k : Nat) (st : Sto) : MM D := if pf d = true then ret d st else match d with
  | .ptr j => if k ≤ j then (match cs[j]? with
    | some (some c) => if pfC c = true then ret (.ptr st.length) (st ++ [some c]) else none
    | _ => none) else none
  | _ => none
def pfX (e : Exn) : Bool := pfs (e.fs.map (·.2))
def back0 (st : Sto) (m : MM D) : MM D := match m with
  | some (.ok d cs) => outB d cs 0 st
  | some (.exc e _) => if pfX e = true then some (.exc e st) else none
  | none => none
def back1 (i : Nat) (st : Sto) (m : MM D) : MM D := match m with
  | some (.ok d (some c :: cs)) => if pfC c = true then outB d (some c :: cs) 1 (st.set i (some c)) else none
  | some (.exc e (some c :: _)) => if pfC c = true ∧ pfX e = true then some (.exc e (st.set i (some c))) else none
  | _ => none
def callB (n : Nat) (m : List D → Sto → MM D) : List D → Sto → MM D := fun ds st => if ds.length = n then (match ds with
  | .ptr i :: r => (match st[i]? with
    | some (some c) => if pfs r = true ∧ pfC c = true then back1 i st (m (.ptr 0 :: r) [some c]) else none
    | _ => none)
  | ds => if pfs ds = true then back0 st (m ds []) else none) else none
section
variable {K : PySem.W.Frag} {E : XK} {w wc w' : Ws} {Q : VK}
/-- the value handed back, over the caller's world w1 -/
theorem post_out {d : D} {cs : Sto} {k : Nat} {w1 : Ws} {v : V} (h : Post K E (rD K) w (outB d cs k w1.st) Q) (o1 : Ok K w1) (s1 : Step w w1) (o' : Ok K w') (e' : w'.st = cs) (hF : w1.F = w'.F) (hH : w1.H = w'.H) (r : Rep K w'.F w'.al v d)
    (hn : ∀ (j : Nat) b, k ≤ j → Live w'.st j → w'.al[j]? = some b → w.H b = none ∧ ¬ Own w1 b) : Q v w'.H := by
  unfold outB at h
  by_cases p : pf d = true
  · rw [if_pos p] at h
    have q := h v w1 rfl o1 s1 (show Rep K w1.F w1.al v d by rw [hF]; exact r.any p)
    rw [hH] at q; exact q
  · rw [if_neg p] at h
    cases d with
    | ptr j =>
      obtain ⟨hk, h⟩ := post_ite h
      cases q : cs[j]? with
      | none => simp only [q] at h; exact h.elim
      | some oc =>
        cases oc with
        | none => simp only [q] at h; exact h.elim
        | some c =>
          simp only [q] at h
          obtain ⟨hc, h⟩ := post_ite h
          have q' : w'.st[j]? = some (some c) := by rw [e']; exact q
          obtain ⟨b, rfl, eb, fb, cb⟩ := cell_at o' r q'
          obtain ⟨nb, ob⟩ := hn j b hk ⟨c, q'⟩ eb
          have oo : Ok K ⟨w1.st ++ [some c], w1.al ++ [b], w1.F, w1.H⟩ := adopt o1 ob (by rw [hF]; exact fb) (by rw [hF, hH]; exact cb.any hc)
          have z := h (.ref b) _ rfl oo (step_adopt s1 o1.len nb) (.ptr (by
            show (w1.al ++ [b])[w1.st.length]? = some b
            rw [List.getElem?_append_right (by rw [o1.len]; exact Nat.le_refl _), o1.len, Nat.sub_self]; rfl))
          rw [← hH]; exact z
    | _ => exact h.elim
theorem RepX.to {e : Exn} {dd : Option Addr} {w1 : Ws} (hF : w1.F = w'.F) (hH : w1.H = w'.H) (p : pfX e = true) (r : RepX K w' e dd) : RepX K w1 e dd := by
  cases dd with
  | none => exact r
  | some d =>
    obtain ⟨vs, h1, h2, h3, h4⟩ := r
    exact ⟨vs, by rw [hH]; exact h1, by rw [hF]; exact h2, h3, by rw [hF]; exact h4.any p⟩
theorem callf_B {n : Nat} {m : List D → Sto → MM D} : CallF K E n m (callB n m) := fun w vs ds Q o r h => by
  obtain ⟨en, h⟩ := post_ite h
  have plain : (∀ i r, ds ≠ .ptr i :: r) → Post K E (rD K) w (if pfs ds = true then back0 w.st (m ds []) else none) Q → spM K n m vs w.H Q E := fun _ h => by
    obtain ⟨p, h⟩ := post_ite h
    refine ⟨⟨[], [], w.F, w.H⟩, ds, rfl, ⟨rfl, o.sub, fun i c z => by simp at z, fun i j a ⟨c, z⟩ => by simp at z⟩, r.any p, en, ?_⟩
    have nown : ∀ b, ¬ Own ⟨[], [], w.F, w.H⟩ b := fun b ⟨i, ⟨c, z⟩, _⟩ => by simp at z
    have co : ∀ w', Ok K w' → Step ⟨[], [], w.F, w.H⟩ w' → Ok K ⟨w.st, w.al, w'.F, w'.H⟩ ∧ Step w ⟨w.st, w.al, w'.F, w'.H⟩ := fun w' o' s =>
      core (wc := ⟨[], [], w.F, w.H⟩) o rfl rfl (fun b z => absurd z (nown b)) o' s w.st rfl (fun j l => l) (fun j b c _ _ z => absurd z (nown b)) (fun j b c z _ _ => z)
    match hm : m ds [], h with
    | none, h => exact h.elim
    | some (.ok d cs), h =>
      intro v w' e' o' s r'
      obtain ⟨o1, s1⟩ := co w' o' s
      refine post_out (w1 := ⟨w.st, w.al, w'.F, w'.H⟩) h o1 s1 o' e' rfl rfl r' fun j b _ l eb => ?_
      have hb : w.H b = none := (s.news b ⟨j, l, eb⟩).elim (fun z => absurd z (nown b)) id
      exact ⟨hb, fun ⟨i, li, ei⟩ => (o.own_H ⟨i, li, ei⟩).1 hb⟩
    | some (.exc x cs), h =>
      obtain ⟨px, h⟩ := post_ite (m := some (.exc x w.st)) h
      intro dd w' e' o' s rx
      obtain ⟨o1, s1⟩ := co w' o' s
      have z := h dd ⟨w.st, w.al, w'.F, w'.H⟩ rfl o1 s1 (RepX.to (w' := w') rfl rfl px rx)
      exact z
  match ds, plain with
  | [], plain => exact plain (fun _ _ z => nomatch z) h
  | .ptr i :: r0, _ =>
    have h : Post K E (rD K) w (match w.st[i]? with
      | some (some c) => if pfs r0 = true ∧ pfC c = true then back1 i w.st (m (.ptr 0 :: r0) [some c]) else none
      | _ => none) Q := h
    cases q : w.st[i]? with
    | none => simp only [q] at h; exact h.elim
    | some oc =>
      cases oc with
      | none => simp only [q] at h; exact h.elim
      | some c =>
        simp only [q] at h
        obtain ⟨⟨p1, p2⟩, h⟩ := post_ite h
        cases r with
        | cons rv rr =>
          obtain ⟨a, rfl, ea, fa, ca⟩ := cell_at o rv q
          have li : Live w.st i := ⟨c, q⟩
          have ow : ∀ b, Own ⟨[some c], [a], w.F, w.H⟩ b → b = a := fun b ⟨j, ⟨x, z⟩, e⟩ => by
            cases j with
            | zero => exact (Option.some.inj e).symm
            | succ j => simp at z
          have owa : Own ⟨[some c], [a], w.F, w.H⟩ a := ⟨0, ⟨c, rfl⟩, rfl⟩
          refine ⟨⟨[some c], [a], w.F, w.H⟩, .ptr 0 :: r0, rfl, ⟨rfl, o.sub, fun j x z => ?_, fun j k b lj lk _ _ => ?_⟩, .cons (.ptr rfl) (rr.any p1), en, ?_⟩
          · cases j with
            | zero =>
              have ex : c = x := by simpa using z
              subst ex
              exact ⟨a, rfl, fa, ca.any p2⟩
            | succ j => simp at z
          · have hj := lj.lt
            have hk := lk.lt
            simp at hj hk
            omega
          have co : ∀ w' c' cs, w'.st = some c' :: cs → pfC c' = true → Ok K w' → Step ⟨[some c], [a], w.F, w.H⟩ w' → Ok K ⟨w.st.set i (some c'), w.al, w'.F, w'.H⟩ ∧ Step w ⟨w.st.set i (some c'), w.al, w'.F, w'.H⟩ := fun w' c' cs e' pc o' s => by
            refine core (wc := ⟨[some c], [a], w.F, w.H⟩) o rfl rfl (fun b z => by rw [ow b z]; exact ⟨i, li, ea⟩) o' s _ (by rw [List.length_set]) (fun j l => live_set li l) (fun j b x z eb ob => ?_) (fun j b x z eb ob => ?_)
            · have eab := ow b ob
              subst eab
              have ej : i = j := by
                obtain ⟨cj, hj⟩ := live_set li ⟨x, z⟩
                exact o.inj i j b li ⟨cj, hj⟩ ea eb
              subst ej
              rw [List.getElem?_set_self li.lt] at z
              cases z
              obtain ⟨b', eb', fb', cb'⟩ := o'.own 0 c' (by rw [e']; rfl)
              have : b' = b := Option.some.inj (eb'.symm.trans (s.pre 0 b rfl))
              subst this
              exact ⟨fb', cb'.any pc⟩
            · have nij : i ≠ j := fun e => by
                subst e
                rw [ea] at eb; cases eb
                exact ob owa
              rw [List.getElem?_set_ne nij] at z
              exact z
          match hm : m (.ptr 0 :: r0) [some c], h with
          | none, h => exact h.elim
          | some (.ok d []), h => exact h.elim
          | some (.ok d (none :: cs)), h => exact h.elim
          | some (.ok d (some c' :: cs)), h =>
            obtain ⟨pc, h⟩ := post_ite (m := outB d (some c' :: cs) 1 (w.st.set i (some c'))) h
            intro v w' e' o' s r'
            obtain ⟨o1, s1⟩ := co w' c' cs e' pc o' s
            refine post_out (w1 := ⟨w.st.set i (some c'), w.al, w'.F, w'.H⟩) h o1 s1 o' e' rfl rfl r' fun j b hj l eb => ?_
            have nba : b ≠ a := fun e => by
              subst e
              have := o'.inj j 0 b l ⟨c', by rw [e']; rfl⟩ eb (s.pre 0 b rfl)
              omega
            have hb : w.H b = none := (s.news b ⟨j, l, eb⟩).elim (fun z => absurd (ow b z) nba) id
            exact ⟨hb, fun ⟨k, lk, ek⟩ => (o.own_H ⟨k, live_set li lk, ek⟩).1 hb⟩
          | some (.exc x []), h => exact h.elim
          | some (.exc x (none :: cs)), h => exact h.elim
          | some (.exc x (some c' :: cs)), h =>
            obtain ⟨⟨pc, px⟩, h⟩ := post_ite (m := some (.exc x (w.st.set i (some c')))) h
            intro dd w' e' o' s rx
            obtain ⟨o1, s1⟩ := co w' c' cs e' pc o' s
            have z := h dd ⟨w.st.set i (some c'), w.al, w'.F, w'.H⟩ rfl o1 s1 (RepX.to (w' := w') rfl rfl px rx)
            exact z
  | .non :: r0, plain => exact plain (fun _ _ z => nomatch z) h
  | .bl _ :: r0, plain => exact plain (fun _ _ z => nomatch z) h
  | .int _ :: r0, plain => exact plain (fun _ _ z => nomatch z) h
  | .str _ :: r0, plain => exact plain (fun _ _ z => nomatch z) h
  | .tup _ :: r0, plain => exact plain (fun _ _ z => nomatch z) h
  | .lst _ :: r0, plain => exact plain (fun _ _ z => nomatch z) h
  | .dct _ :: r0, plain => exact plain (fun _ _ z => nomatch z) h
  | .dcT _ :: r0, plain => exact plain (fun _ _ z => nomatch z) h
  | .scr _ :: r0, plain => exact plain (fun _ _ z => nomatch z) h
  | .gtp _ :: r0, plain => exact plain (fun _ _ z => nomatch z) h
  | .fnc _ :: r0, plain => exact plain (fun _ _ z => nomatch z) h
end
/-! ### calling a def -/
def mCall (c : List D → Sto → MM D) (f : FA) : FE := fun sl st => bnd (f sl st) fun ds st => c ds st
theorem me_call {X : Cx} {E : XK} {CX : CXT} {k n : Nat} {f : Addr} {fd : FuncData} {ps : List Str} {m c : List D → Sto → MM D} {fs : FA} {x : Str} {p pos : Pos} {e : Expr} {es : List Expr} (F : FnOk X.prog X.w X.K X.mg X.base CX k f fd ps (spM X.K n m)) (hc : CallF X.K E n m c) (hr : Room k X.A) (hm : X.mg x = some (.ref f))
    (hk : PySem.W.keepIn X.K (.ref f) = true) (hb : Binds X.K fd ps []) (hx : Passes CX X E) (ha : MA X E (e :: es) fs) (hg : Gl X x := by rfl) (hdb : (x == ("__debug__" : Str)) = false := by decide) (he : starEach (e :: es) X.env = (false, eval e X.env) :: starEach es X.env := by rfl)
    (hpl : (backTo pos (starEach es X.env)).any (·.1) = false := by rfl) : ME X E (.Call (.Name x p) (e :: es) [] pos) (mCall c fs) := by
  obtain ⟨t, p, q⟩ := ha.ex
  refine ⟨_, pe_call F hr hg hm hk hb .nil hx p hdb he hpl, fun sl σ w Q o s h => ?_⟩
  refine q sl σ w _ o s (post_bnd h fun vs ds w1 o1 s1 r hp => ?_)
  rw [List.append_nil]
  exact hc w1 vs ds Q o1 r hp
/-! ### a def by its body -/
def mDef (N n : Nat) (body : FS) : List D → Sto → MM D := fun ds st => bnd (body (ds.map some ++ List.replicate (N - n) none) st) fun f st => match f with
  | .nx _ => ret .non st
  | .rt d => ret d st
  | _ => none
theorem slots_start {K : PySem.W.Frag} {w : Ws} {N : List Str} {vs : List V} {ds : List D} (r : Reps K w.F w.al vs ds) : Slots K w (ds.map some ++ List.replicate (N.length - ds.length) none) (L2.start N vs) := by
  unfold L2.start
  rw [r.length]
  refine ⟨by simp [r.length], fun i d h => ?_⟩
  by_cases z : i < ds.length
  · rw [List.getElem?_append_left (by simpa using z), List.getElem?_map] at h
    cases q : ds[i]? with
    | none => rw [q] at h; cases h
    | some e =>
      rw [q] at h; cases h
      obtain ⟨v, e1, e2⟩ := r.get q
      refine ⟨v, ?_, e2⟩
      rw [List.getElem?_append_left (by simpa [r.length] using z), List.getElem?_map, e1]; rfl
  · rw [List.getElem?_append_right (by simpa using Nat.le_of_not_lt z), List.getElem?_replicate] at h
    split at h <;> cases h
theorem post_def {K : PySem.W.Frag} {E : XK} {t : TS} {g : FS} {N : List Str} {n : Nat} {vs : List V} {H : Hp} {Q : VK} (h : RefS K E t g) (hs : spM K n (mDef N.length n g) vs H Q E) : t { nx := fun _ H' => Q .non H', rt := Q } (L2.start N vs) H := by
  obtain ⟨w, ds, rfl, o, r, e, hp⟩ := hs
  subst e
  refine h _ _ w _ o (slots_start r) ?_
  unfold mDef at hp
  match hm : g (ds.map some ++ List.replicate (N.length - ds.length) none) w.st, hp with
  | none, hp => exact hp.elim
  | some (.ok (.nx sl) st), hp => exact fun w' e o' s σ _ => hp .non w' e o' s .non
  | some (.ok (.rt d) st), hp => exact fun w' e o' s v r => hp v w' e o' s r
  | some (.ok (.bk d) st), hp => exact hp.elim
  | some (.ok (.ct d) st), hp => exact hp.elim
  | some (.exc x st), hp => exact hp
/-- THE RULE for a def that raises nothing -/
theorem fn_m {P : Program} {w : World} {K : PySem.W.Frag} {mg : Str → Option Value} {base : Heap} {x qual : Str} {st : Stmt} {f : Addr} {fd : FuncData} {N ps : List Str} {k : Nat} {g : FS} (F : Fun K x qual st f fd) (S : FnScope N ps (defScope st))
    (hb : ∀ (cdv : Value) (A : Around) (outer : List Env) (s : Shared) (H : Hp) (E E' : XK), Room k (A.deeper (envOfC qual (defScope st) s.heap.objs.size f cdv)) → MSs (cxOf CX0 P w K mg base N qual (defScope st) f cdv A outer s H E).nox E' (defBody st) g) :
    FnOk P w K mg base CX0 (k + 1) f fd ps (spM K ps.length (mDef N.length ps.length g)) := by
  refine F.ok S (fun vs H Q E h => spM_len h) (fun cdv A outer s H vs Q E hr h => ?_)
  obtain ⟨t, p, q⟩ := (hb cdv A outer s H E E hr).ex
  exact ⟨t, p, post_def q h⟩
end M

namespace M
open PySem L2
section
variable {X : Cx} {E : XK} {K : PySem.W.Frag} {a b c e o : Expr} {es rest : List Expr} {fa fb fc : FE} {fs : FA} {ta tb tc : TE} {ts : TA} {pos apos cpos : Pos} {T id : String} {name : Str}
def tyOk (T : String) (st : Sto) : D → Bool
  | .str _ => T == "str"
  | .int _ => T == "int"
  | d => T == "list" && (lstOf st d).isSome
theorem tyOk_rep {w : Ws} (o : Ok K w) {v : V} {d : D} (r : Rep K w.F w.al v d) (h : tyOk T w.st d = true) : tyV K T v w.H := by
  have viaL : (T == "list" && (lstOf w.st d).isSome) = true → tyV K T v w.H := fun z => by
    rw [Bool.and_eq_true] at z
    obtain ⟨z1, z2⟩ := z
    obtain ⟨ds, e⟩ := Option.isSome_iff_exists.mp z2
    obtain ⟨p, xs, rfl, hx, _⟩ := lstOf_rep o r e
    exact .inl ⟨eq_of_beq z1, xs, hx⟩
  cases d with
  | str s => cases r; exact eq_of_beq h
  | int i => cases r; exact eq_of_beq h
  | _ => exact viaL h
def mBM0 (T : String) (g : Sto → D → List D → MM D) (f : FE) : FE := fun sl st => bnd (f sl st) fun x st => if tyOk T st x = true then g st x [] else none
def mBM (T : String) (g : Sto → D → List D → MM D) (f : FE) (h : FA) : FE := fun sl st => bnd (f sl st) fun x st => if tyOk T st x = true then bnd (h sl st) fun ds st => g st x ds else none
def RfM (K : PySem.W.Frag) (E : XK) (r : V → List V → Hp → VK → Prop) (g : Sto → D → List D → MM D) : Prop := ∀ x dx xs ds w (Q : VK), Ok K w → Rep K w.F w.al x dx → Reps K w.F w.al xs ds → Post K E (rD K) w (g w.st dx ds) Q → r x xs w.H Q
theorem me_bm0 {r : V → List V → Hp → VK → Prop} {g : Sto → D → List D → MM D} (pa : PlainAttrs T) (slot : Slot T name id) (hty : typeOf (.builtin id) = pure (.type "method_descriptor")) (hm : MtR X id r) (hr : RfM X.K E r g) (ho : ME X E o fa)
    (hbase : attributeBase o name X.env (eval o X.env) = eval o X.env := by rfl) (hline : (apos.endLine == cpos.line) = true := by rfl) : ME X E (.Call (.Attribute o name apos) [] [] cpos) (mBM0 T g fa) := by
  obtain ⟨t, p, q⟩ := ho.ex
  refine ⟨_, pe_bm0 pa slot hty hm p hbase hline, fun sl σ w Q o s h => ?_⟩
  refine q sl σ w _ o s (post_bnd h fun v d w1 o1 s1 r1 hp => ?_)
  obtain ⟨ht, hp⟩ := post_ite hp
  exact ⟨tyOk_rep o1 r1 ht, hr v d [] [] w1 Q o1 r1 .nil hp⟩
theorem me_bm {r : V → List V → Hp → VK → Prop} {g : Sto → D → List D → MM D} (pa : PlainAttrs T) (slot : Slot T name id) (hty : typeOf (.builtin id) = pure (.type "method_descriptor")) (hm : MtR X id r) (hr : RfM X.K E r g) (ho : ME X E o fa) (ha : MA X E (e :: es) fs)
    (hbase : attributeBase o name X.env (eval o X.env) = eval o X.env := by rfl)
    (hfew : ((backTo cpos (starEach (e :: es) X.env)).all (fun x => !x.1) && (backToKw cpos (keywordEach [] X.env)).all (fun x => x.1.isSome)
      && decide ((e :: es).length + ([] : List Keyword).length + (if ([] : List Keyword).isEmpty then 0 else 1) < 30)) = true := by rfl)
    (hline : (apos.endLine == cpos.line) = true := by rfl) (hs : starEach (e :: es) X.env = (false, eval e X.env) :: starEach es X.env := by rfl) (hplain : (backTo cpos (starEach es X.env)).any (·.1) = false := by rfl) : ME X E (.Call (.Attribute o name apos) (e :: es) [] cpos) (mBM T g fa fs) := by
  obtain ⟨t, p, q⟩ := ho.ex
  obtain ⟨t', p', q'⟩ := ha.ex
  refine ⟨_, pe_bm pa slot hty hm p p' hbase hfew hline hs hplain, fun sl σ w Q o s h => ?_⟩
  refine q sl σ w _ o s (post_bnd h fun v d w1 o1 s1 r1 hp => ?_)
  obtain ⟨ht, hp⟩ := post_ite hp
  refine ⟨tyOk_rep o1 r1 ht, q' sl σ w1 _ o1 (s.step s1) (post_bnd hp fun vs ds w2 o2 s2 r2 hp2 => ?_)⟩
  exact hr v d vs ds w2 Q o2 (r1.mono s2.le s2.pre) r2 hp2
/-! ### lists as cells -/
/-- a cell's list becomes es, d is handed back -/
def putL (i : Nat) (es : List D) (d : D) (st : Sto) : MM D := ret d (st.set i (some (.lst es)))
theorem post_putL {w : Ws} {i : Nat} {es ds : List D} {d : D} {v : V} {Q : VK} {p : Addr} {xs : List V} (ok : Ok K w) (hi : w.st[i]? = some (some (.lst ds))) (hp : w.al[i]? = some p) (h : Post K E (rD K) w (putL i es d w.st) Q) (rv : Rep K w.F w.al v d) (rs : Reps K w.F w.al xs es) : Q v (upd w.H p (.lst xs)) := by
  have l : Live w.st i := ⟨_, hi⟩
  exact h v (w.put i p (.lst xs) (.lst es)) rfl (ok_put ok l hp (.lst upd_same rs)) (step_put ok l hp _ _) rv
theorem cell_lst {w : Ws} (o : Ok K w) {v : V} {i : Nat} {ds : List D} (r : Rep K w.F w.al v (.ptr i)) (h : cellL w.st i = some ds) : ∃ a xs, v = .ref a ∧ w.al[i]? = some a ∧ w.st[i]? = some (some (.lst ds)) ∧ w.H a = some (.lst xs) ∧ Reps K w.F w.al xs ds := by
  obtain ⟨a, e, ea, _, ca⟩ := cell_at o r (cellL_some h)
  cases ca with
  | lst hx rs => exact ⟨a, _, e, ea, cellL_some h, hx, rs⟩
def gAppend (st : Sto) (x : D) (as : List D) : MM D := match x, as with
  | .ptr i, [y] => match cellL st i with
    | some ds => if ds.length < sizeLine then putL i (ds ++ [y]) .non st else none
    | none => none
  | _, _ => none
theorem rf_append : RfM K E rAppend gAppend := fun x dx xs ds w Q o rx rs h => by
  unfold gAppend at h
  split at h
  · rename_i i y
    cases q : cellL w.st i with
    | none => rw [q] at h; exact h.elim
    | some ds =>
      rw [q] at h
      obtain ⟨hl, h⟩ := post_ite h
      obtain ⟨a, ys, rfl, ea, es, hx, r⟩ := cell_lst o rx q
      obtain ⟨y', rfl, ry⟩ := rs.one_inv
      exact ⟨a, ys, y', rfl, rfl, hx, by rw [r.length]; exact hl, post_putL o es ea h .non (r.append (.cons ry .nil))⟩
  · exact h.elim
def gPop (st : Sto) (x : D) (as : List D) : MM D := match x, as with
  | .ptr i, [] => match cellL st i with
    | some ds => match ds[ds.length - 1]? with
      | some y => putL i ds.dropLast y st
      | none => none
    | none => none
  | _, _ => none
theorem Reps.dropLast {F : Hp} {α : List Addr} {vs : List V} {ds : List D} (r : Reps K F α vs ds) : Reps K F α vs.dropLast ds.dropLast := by
  rw [List.dropLast_eq_take, List.dropLast_eq_take, r.length]
  exact r.take _
theorem rf_pop : RfM K E rPop gPop := fun x dx xs ds w Q o rx rs h => by
  unfold gPop at h
  split at h
  · rename_i i
    cases q : cellL w.st i with
    | none => rw [q] at h; exact h.elim
    | some ds =>
      rw [q] at h
      obtain ⟨a, ys, rfl, ea, es, hx, r⟩ := cell_lst o rx q
      cases q2 : ds[ds.length - 1]? with
      | none => simp only [q2] at h; exact h.elim
      | some y =>
        simp only [q2] at h
        obtain ⟨v, e1, e2⟩ := r.get q2
        cases rs
        exact ⟨a, ys, v, rfl, rfl, hx, by rw [r.length]; exact e1, post_putL o es ea h e2 r.dropLast⟩
  · exact h.elim
def gReverse (st : Sto) (x : D) (as : List D) : MM D := match x, as with
  | .ptr i, [] => match cellL st i with
    | some ds => putL i ds.reverse .non st
    | none => none
  | _, _ => none
theorem rf_reverse : RfM K E rReverse gReverse := fun x dx xs ds w Q o rx rs h => by
  unfold gReverse at h
  split at h
  · rename_i i
    cases q : cellL w.st i with
    | none => rw [q] at h; exact h.elim
    | some ds =>
      rw [q] at h
      obtain ⟨a, ys, rfl, ea, es, hx, r⟩ := cell_lst o rx q
      cases rs
      exact ⟨a, ys, rfl, rfl, hx, post_putL o es ea h .non r.reverse⟩
  · exact h.elim
theorem me_append (ho : ME X E o fa) (ha : MA X E [e] fs) (hbase : attributeBase o "append" X.env (eval o X.env) = eval o X.env := by rfl)
    (hfew : ((backTo cpos (starEach [e] X.env)).all (fun x => !x.1) && (backToKw cpos (keywordEach [] X.env)).all (fun x => x.1.isSome)
      && decide ([e].length + ([] : List Keyword).length + (if ([] : List Keyword).isEmpty then 0 else 1) < 30)) = true := by rfl)
    (hline : (apos.endLine == cpos.line) = true := by rfl) (hs : starEach [e] X.env = (false, eval e X.env) :: starEach [] X.env := by rfl) (hplain : (backTo cpos (starEach [] X.env)).any (·.1) = false := by rfl) :
    ME X E (.Call (.Attribute o "append" apos) [e] [] cpos) (mBM "list" gAppend fa fs) := me_bm PySem.F.plainAttrs_list PySem.F.slot_list_append PySem.F.type_list_append mt_append rf_append ho ha hbase hfew hline hs hplain
theorem me_pop (ho : ME X E o fa) (hbase : attributeBase o "pop" X.env (eval o X.env) = eval o X.env := by rfl) (hline : (apos.endLine == cpos.line) = true := by rfl) : ME X E (.Call (.Attribute o "pop" apos) [] [] cpos) (mBM0 "list" gPop fa) :=
  me_bm0 PySem.F.plainAttrs_list PySem.F.slot_list_pop PySem.F.type_list_pop mt_pop rf_pop ho hbase hline
theorem me_reverse (ho : ME X E o fa) (hbase : attributeBase o "reverse" X.env (eval o X.env) = eval o X.env := by rfl) (hline : (apos.endLine == cpos.line) = true := by rfl) : ME X E (.Call (.Attribute o "reverse" apos) [] [] cpos) (mBM0 "list" gReverse fa) :=
  me_bm0 PySem.F.plainAttrs_list PySem.F.slot_list_reverse PySem.F.type_list_reverse mt_reverse rf_reverse ho hbase hline
/-! ### while -/
def whileN (c : FT) (body : FS) : Nat → Sl → Sto → MM Fl
  | 0, _, _ => none
  | n + 1, sl, st => bnd (c sl st) fun k st => cond k (bnd (body sl st) fun f st => match f with
      | .nx sl => whileN c body n sl st
      | .ct sl => whileN c body n sl st
      | .bk sl => ret (.nx sl) st
      | .rt d => ret (.rt d) st) (ret (.nx sl) st)
/-- n: more turns than there are -/
theorem ms_while (n : Nat) {body : List Stmt} {gc : FT} {gb : FS} (hp : PassesOwn (model X.prog X.w) X.A X.env X.xe) (hc : MT X E c gc) (hb : MSs X E body gb) : MS X E (.While c body [] pos) (whileN gc gb n) := by
  obtain ⟨t1, p1, q1⟩ := hc.ex
  obtain ⟨t2, p2, q2⟩ := hb.ex
  refine ⟨_, ps_while hp p1 p2, fun sl σ w D o s h => ?_⟩
  refine ⟨fun m σ H => ∃ w' sl', w'.H = H ∧ Ok X.K w' ∧ Step w w' ∧ Slots X.K w' sl' σ ∧ PostS X.K E w' (whileN gc gb m sl' w'.st) D, ⟨n, w, sl, rfl, o, Step.refl _, s, h⟩, fun m σ H ⟨w', sl', eH, o', st', sls, hW⟩ => ?_⟩
  subst eH
  cases m with
  | zero => exact hW.elim
  | succ m =>
    refine q1 sl' σ w' _ o' sls (post_bndS hW fun v x w1 o1 s1 r hp => ?_)
    have r : v = x := r
    subst r
    cases v with
    | false => exact (if_neg Bool.false_ne_true).mpr (postS_ret (E := E) o1 hp σ (sls.step s1))
    | true =>
      refine (if_pos rfl).mpr ?_
      refine ⟨fun σ2 H2 => ∃ w2 sl2, w2.H = H2 ∧ Ok X.K w2 ∧ Step w w2 ∧ Slots X.K w2 sl2 σ2 ∧ PostS X.K E w2 (whileN gc gb m sl2 w2.st) D, fun σ2 H2 z => ⟨m, Nat.lt_succ_self m, z⟩, ?_⟩
      refine q2 sl' σ w1 _ o1 (sls.step s1) (postS_bnd hp fun f w4 o4 s4 h4 => ?_)
      have s14 : Step w w4 := (st'.trans s1).trans s4
      cases f with
      | nx sl4 => exact fun σ4 z => ⟨w4, sl4, rfl, o4, s14, z, h4⟩
      | ct sl4 => exact fun σ4 z => ⟨w4, sl4, rfl, o4, s14, z, h4⟩
      | bk sl4 => exact fun σ4 z => postS_ret (E := E) o4 h4 σ4 z
      | rt d => exact fun v z => postS_ret (E := E) o4 h4 v z
/-! ### xs[i] = v -/
def gSet (fo fi : FE) (g : Sto → D → D → D → MM Unit) : FG := fun d sl st => bnd (fo sl st) fun x st => bnd (fi sl st) fun y st => bnd (g st x y d) fun _ st => ret sl st
def RfSet (K : PySem.W.Frag) (E : XK) (t : TSet) (g : Sto → D → D → D → MM Unit) : Prop := ∀ o i v dO di dv w (Q : Hp → Prop), Ok K w → Rep K w.F w.al o dO → Rep K w.F w.al i di → Rep K w.F w.al v dv → Post K E (fun _ (_ : Unit) (_ : Unit) => True) w (g w.st dO di dv) (fun _ H => Q H) → t o i v w.H Q
theorem mg_sub {i : Expr} {fo fi : FE} {t : TSet} {g : Sto → D → D → D → MM Unit} (ho : ME X E o fo) (hi : ME X E i fi) (hs : PSet X t) (hr : RfSet X.K E t g) (hpl : ∀ v, assign (.Subscript o i pos) X.env v = (do
      let ov ← holding [v] (eval o X.env)
      let iv ← holding [v, ov] (eval i X.env)
      standAt pos
      holding [v, ov, iv] (setItem ov iv v)
      release [v, ov, iv] []) := by intro _; rfl) : MG X E (.Subscript o i pos) (gSet fo fi g) := by
  obtain ⟨t1, p1, q1⟩ := ho.ex
  obtain ⟨t2, p2, q2⟩ := hi.ex
  refine ⟨_, pg_sub p1 p2 hs hpl, fun v d sl σ w Q o rv s h => ?_⟩
  refine q1 sl σ w _ o s (post_bnd h fun x dx w1 o1 s1 rx h1 => ?_)
  refine q2 sl σ w1 _ o1 (s.step s1) (post_bnd h1 fun y dy w2 o2 s2 ry h2 => ?_)
  refine hr x y v dx dy d w2 _ o2 (rx.mono s2.le s2.pre) ry ((rv.mono s1.le s1.pre).mono s2.le s2.pre) ?_
  exact post_bnd h2 fun _ _ w3 o3 s3 _ h3 => post_ret (rp := fun w σ sl => Slots X.K w sl σ) o3 (((s.step s1).step s2).step s3) h3
def gSetL (st : Sto) (x y v : D) : MM Unit := match x, y with
  | .ptr i, .int k => match cellL st i with
    | some ds => match ixN ds.length k with
      | some j => ret () (st.set i (some (.lst (ds.set j v))))
      | none => none
    | none => none
  | _, _ => none
theorem rf_setL : RfSet K E rSetL gSetL := fun x y v dx dy dv w Q o rx ry rv h => by
  unfold gSetL at h
  split at h
  · rename_i i k
    cases q : cellL w.st i with
    | none => rw [q] at h; exact h.elim
    | some ds =>
      rw [q] at h
      obtain ⟨a, ys, rfl, ea, es, hx, r⟩ := cell_lst o rx q
      cases q2 : ixN ds.length k with
      | none => simp only [q2] at h; exact h.elim
      | some j =>
        simp only [q2] at h
        have l : Live w.st i := ⟨_, es⟩
        exact ⟨a, ys, k, j, rfl, ry.int_inv, hx, by rw [r.length]; exact q2, h () (w.put i a (.lst (ys.set j v)) (.lst (ds.set j dv))) rfl (ok_put o l ea (.lst upd_same (r.set rv j))) (step_put o l ea _ _) trivial⟩
  · exact h.elim
end
end M

namespace M
open PySem PySem.Spec L2
/-! ### readings that a plain function fixes -/
def tE (K : PySem.W.Frag) (E : XK) (f : FE) : TE := fun σ H Q => ∃ sl w, w.H = H ∧ Ok K w ∧ Slots K w sl σ ∧ Post K E (rD K) w (f sl w.st) Q
def tT (K : PySem.W.Frag) (E : XK) (f : FT) : TT := fun σ H Q => ∃ sl w, w.H = H ∧ Ok K w ∧ Slots K w sl σ ∧ Post K E rB w (f sl w.st) Q
theorem ME.can {X : Cx} {E : XK} {e : Expr} {f : FE} (h : ME X E e f) : PE X e (tE X.K E f) := by
  obtain ⟨t, p, q⟩ := h.ex
  refine ⟨fun pins s σ H Q I h => p.run pins s σ H Q I ?_⟩
  obtain ⟨sl, w, rfl, o, ss, hp⟩ := h
  exact q sl σ w Q o ss hp
theorem MT.can {X : Cx} {E : XK} {e : Expr} {f : FT} (h : MT X E e f) : PT X e (tT X.K E f) := by
  obtain ⟨t, p, q⟩ := h.ex
  refine ⟨fun pins s σ H Q I h => p.run pins s σ H Q I ?_⟩
  obtain ⟨sl, w, rfl, o, ss, hp⟩ := h
  exact q sl σ w Q o ss hp
/-- a target that stores into the slots vs alone -/
def RfGW (K : PySem.W.Frag) (E : XK) (vs : List Nat) (t : TG) (g : FG) : Prop := ∀ v d sl σ w (Q : St → Hp → Prop), Ok K w → Rep K w.F w.al v d → Slots K w sl σ → Post K E (fun w σ' sl' => Slots K w sl' σ' ∧ wipe σ' vs = wipe σ vs) w (g d sl w.st) Q → t v σ w.H Q
def RfGWs (K : PySem.W.Frag) (E : XK) (vs : List Nat) (t : TGs) (g : FGs) : Prop := ∀ xs ds sl σ w (Q : St → Hp → Prop), Ok K w → Reps K w.F w.al xs ds → Slots K w sl σ → Post K E (fun w σ' sl' => Slots K w sl' σ' ∧ wipe σ' vs = wipe σ vs) w (g ds sl w.st) Q → t xs σ w.H Q
theorem wipe_set {v : Option V} {i : Nat} : ∀ {vs : List Nat} {σ : St}, i ∈ vs → wipe (σ.set i v) vs = wipe σ vs
  | [], _, h => by simp at h
  | j :: vs, σ, h => by
    show (wipe (σ.set i v) vs).set j none = (wipe σ vs).set j none
    by_cases z : i = j
    · subst z
      have : ∀ (vs : List Nat) (σ : St), (wipe (σ.set i v) vs).set i none = (wipe σ vs).set i none := by
        intro vs
        induction vs with
        | nil => intro σ; show (σ.set i v).set i none = σ.set i none; rw [List.set_set]
        | cons k r ih =>
          intro σ
          show ((wipe (σ.set i v) r).set k none).set i none = ((wipe σ r).set k none).set i none
          by_cases e : k = i
          · subst e; rw [List.set_set, List.set_set]; exact ih σ
          · rw [List.set_comm _ _ e, ih σ, List.set_comm _ _ e]
      exact this vs σ
    · rw [wipe_set (vs := vs) ((List.mem_cons.mp h).resolve_left z)]
section
variable {K : PySem.W.Frag} {E : XK} {vs : List Nat}
theorem rgw_name (i : Nat) (hv : i ∈ vs := by decide) : RfGW K E vs (gName i) (gNm i) := fun v d sl σ w Q o r s h => h (σ.set i (some v)) w rfl o (Step.refl w) ⟨s.set r, wipe_set hv⟩
theorem rgws_nil : RfGWs K E vs gNil gsNil := fun xs ds sl σ w Q o r s h => by
  cases r with
  | nil => exact ⟨rfl, h σ w rfl o (Step.refl w) ⟨s, rfl⟩⟩
  | cons _ _ => exact h.elim
theorem rgws_cons {t : TG} {u : TGs} {gt : FG} {gr : FGs} (h1 : RfGW K E vs t gt) (h2 : RfGWs K E vs u gr) : RfGWs K E vs (gCons t u) (gsCons gt gr) := fun xs ds sl σ w Q o r s h => by
  cases r with
  | nil => exact h.elim
  | cons r1 r2 =>
    refine ⟨_, _, rfl, h1 _ _ sl σ w _ o r1 s (post_bnd h fun σ' sl' w1 o1 s1 sl1 hp => ?_)⟩
    refine h2 _ _ sl' σ' w1 Q o1 (r2.mono s1.le s1.pre) sl1.1 ?_
    rw [sl1.2]; exact hp
theorem rgw_tup {u : TGs} {gr : FGs} {n : Nat} (h : RfGWs K E vs u gr) : RfGW K E vs (gTup K n u) (gTp n gr) := fun v d sl σ w Q o rv s hq => by
  cases d with
  | tup ds =>
    obtain ⟨hl, hq⟩ := post_ite (p := ds.length = n) hq
    obtain ⟨a, xs, rfl, f, rs⟩ := rv.tup_inv
    exact ⟨a, xs, rfl, SqT.of (o.sub _ _ f), by rw [rs.length]; exact hl, h xs ds sl σ w Q o rs s hq⟩
  | _ => exact hq.elim
end
/-! ### list comprehensions -/
def noX {τ : Type} (m : MM τ) : MM τ := match m with
  | some (.ok x st) => some (.ok x st)
  | _ => none
def wipeD (sl : Sl) : List Nat → Sl
  | [] => sl
  | v :: vs => (wipeD sl vs).set v none
def lcL (gt : FG) (tt : FT) (fe : FE) (sl : Sl) : List D → List D → Sto → MM (List D)
  | [], es, st => ret es st
  | d :: ds, es, st => bnd (gt d sl st) fun sl2 st => bnd (tt sl2 st) fun b st => cond b (bnd (fe sl2 st) fun y st => if es.length < sizeLine then lcL gt tt fe sl ds (es ++ [y]) st else none) (lcL gt tt fe sl ds es st)
def mLc (c : Bool) (it : FA) (gt : FG) (tt : FT) (fe : FE) (vs : List Nat) : FE := fun sl st => bnd (it sl st) fun ds st => bnd (noX (lcL gt tt fe (wipeD sl vs) ds [] st)) fun es st => mkL c es st
def tYesD : FT := fun _ st => ret true st
theorem slots_wipe {K : PySem.W.Frag} {w : Ws} {sl : Sl} {σ : St} (s : Slots K w sl σ) : ∀ vs : List Nat, Slots K w (wipeD sl vs) (wipe σ vs)
  | [] => s
  | v :: vs => by
    have ih := slots_wipe s vs
    refine ⟨by show ((wipe σ vs).set v none).length = ((wipeD sl vs).set v none).length; rw [List.length_set, List.length_set]; exact ih.len, fun i d h => ?_⟩
    have h' : ((wipeD sl vs).set v none)[i]? = some (some d) := h
    show ∃ x, ((wipe σ vs).set v none)[i]? = some (some x) ∧ _
    by_cases z : v = i
    · subst z
      by_cases q : v < (wipeD sl vs).length
      · rw [List.getElem?_set_self q] at h'; cases h'
      · rw [List.getElem?_eq_none (by rw [List.length_set]; omega)] at h'; cases h'
    · rw [List.getElem?_set_ne z] at h'
      rw [List.getElem?_set_ne z]
      exact ih.get i d h'
theorem not_own_new {K : PySem.W.Frag} {w : Ws} (o : Ok K w) {p : Addr} (h : w.H p = none) : ¬ Own w p := fun z => (o.own_H z).1 h
/-- a thing beside the world is written -/
def Ws.side (w : Ws) (p : Addr) (u : HO) : Ws := ⟨w.st, w.al, w.F, upd w.H p u⟩
theorem ok_side {K : PySem.W.Frag} {w : Ws} (o : Ok K w) {p : Addr} (hF : w.F p = none) (hO : ¬ Own w p) (u : HO) : Ok K (w.side p u) := by
  refine ⟨o.len, fun a x e => ?_, fun i c h => ?_, o.inj⟩
  · show upd w.H p u a = some x
    rw [upd_ne (ne_of_none e hF)]; exact o.sub _ _ e
  · obtain ⟨a, e, f, ca⟩ := o.own i c h
    have na : a ≠ p := fun z => hO ⟨i, ⟨c, h⟩, by rw [← z]; exact e⟩
    exact ⟨a, e, f, ca.mono (Le.refl _) (Pre.refl _) (show upd w.H p u a = w.H a from upd_ne na)⟩
theorem step_side {w0 w : Ws} (s : Step w0 w) {p : Addr} (h0 : w0.H p = none) (u : HO) : Step w0 (w.side p u) := by
  refine ⟨s.pre, s.le, fun b o e n => ?_, s.old, fun b e => ?_, s.news⟩
  · show upd w.H p u b = some o
    rw [upd_ne (ne_of_none e h0)]; exact s.frame b o e n
  · show upd w.H p u b ≠ none
    by_cases z : b = p
    · subst z; exact absurd h0 e
    · rw [upd_ne z]; exact s.there b e
theorem noX_ok {τ υ : Type} {K : PySem.W.Frag} {E : XK} {rp : Ws → υ → τ → Prop} {w : Ws} {m : MM τ} {Q : υ → Hp → Prop} (h : Post K E rp w (noX m) Q) : ∃ x st, m = some (.ok x st) ∧ ∀ (v : υ) (w' : Ws), w'.st = st → Ok K w' → Step w w' → rp w' v x → Q v w'.H := by
  match m, h with
  | some (.ok x st), h => exact ⟨x, st, rfl, h⟩
  | some (.exc _ _), h => exact h.elim
  | none, h => exact h.elim
theorem bnd_okI {τ υ : Type} {m : MM τ} {k : τ → Sto → MM υ} {y : υ} {st : Sto} (h : bnd m k = some (.ok y st)) : ∃ x st1, m = some (.ok x st1) ∧ k x st1 = some (.ok y st) := by
  match m, h with
  | some (.ok x st1), h => exact ⟨x, st1, rfl, h⟩
section
variable {X : Cx} {E : XK} {K : PySem.W.Frag}
/-- a run that ends well, as a Post whose error is never asked -/
theorem post_of_ok {τ υ : Type} {E' : XK} {rp : Ws → υ → τ → Prop} {w : Ws} {m : MM τ} {x : τ} {st : Sto} {Q : υ → Hp → Prop} (e : m = some (.ok x st)) (h : ∀ (v : υ) (w' : Ws), w'.st = st → Ok K w' → Step w w' → rp w' v x → Q v w'.H) : Post K E' rp w m Q := by
  subst e; exact h
theorem ref_lc {wi : TI} {g : TG} {tt : TT} {te : TE} {fi : FA} {gt : FG} {ft : FT} {fe : FE} {vs : List Nat} {E' : XK} (c : Bool)
    (hi : ∀ sl σ w (R : It → Hp → Prop), Ok K w → Slots K w sl σ → Post K E (fun w J ds => SeqIt K w J ds) w (fi sl w.st) R → wi σ w.H R)
    (hg : ∀ v d sl σ w (Q : St → Hp → Prop), Ok K w → Rep K w.F w.al v d → Slots K w sl σ → Post K E' (fun w σ' sl' => Slots K w sl' σ' ∧ wipe σ' vs = wipe σ vs) w (gt d sl w.st) Q → g v σ w.H Q)
    (ht : RefT K E' tt ft) (he : RefE K E' te fe) (hww : ∀ σ : St, wipe (wipe σ vs) vs = wipe σ vs) : RefE K E (tLc wi g tt te vs) (mLc c fi gt ft fe vs) := fun sl σ w Q o s h => by
  refine hi sl σ w _ o s (post_bnd h fun J ds w1 o1 s1 hJ hp => ?_)
  intro Da nD
  have hnx : ∃ es st, lcL gt ft fe (wipeD sl vs) ds [] w1.st = some (.ok es st) ∧ Post K E (rD K) w1 (mkL c es st) Q := by
    cases hm : lcL gt ft fe (wipeD sl vs) ds [] w1.st with
    | none => rw [hm] at hp; exact hp.elim
    | some r =>
      rw [hm] at hp
      cases r with
      | ok es st => exact ⟨es, st, rfl, hp⟩
      | exc _ _ => exact hp.elim
  obtain ⟨es, st, hrun, hfin⟩ := hnx
  refine ⟨fun i m H => i + m = ds.length ∧ ∃ w' es1 xs, w'.H = H ∧ Ok K w' ∧ Step w1 w' ∧ H Da = some (.lst xs) ∧ w'.F Da = none ∧ ¬ Own w' Da ∧ Reps K w'.F w'.al xs es1 ∧ lcL gt ft fe (wipeD sl vs) (ds.drop i) es1 w'.st = some (.ok es st),
    ⟨ds.length, by omega, w1.side Da (.lst []), [], [], rfl, ok_side o1 (o1.H_of_F nD) (not_own_new o1 nD) _, step_side (Step.refl _) nD _, upd_same, o1.H_of_F nD, not_own_new o1 nD, .nil, hrun⟩, fun i m H ⟨em, w', es1, xs, eH, o', st', hD, fD, oD, rs, hW⟩ => ?_⟩
  subst eH
  obtain ⟨hstop, hgo⟩ := hJ w' o' st'
  cases m with
  | zero =>
    have ei : i = ds.length := by omega
    subst ei
    rw [List.drop_length] at hW
    have e1 : es1 = es ∧ w'.st = st := by
      have q : some (R.ok es1 w'.st) = some (R.ok es st) := hW
      injection q with q
      injection q with q1 q2
      exact ⟨q1, q2⟩
    obtain ⟨rfl, rfl⟩ := e1
    refine .inl ⟨hstop, ?_⟩
    have hfin := Post.step st' hfin
    cases c with
    | true =>
      have oo : Ok K ⟨w'.st ++ [some (.lst es1)], w'.al ++ [Da], w'.F, w'.H⟩ := adopt o' oD fD (.lst hD (rs.mono (Le.refl _) (Pre.app _ _)))
      have s2 : Step w1 ⟨w'.st ++ [some (.lst es1)], w'.al ++ [Da], w'.F, w'.H⟩ := step_adopt st' o'.len nD
      have z : Post K E (rD K) w1 (mkL true es1 w'.st) Q := by assumption
      have q := z (.ref Da) ⟨w'.st ++ [some (.lst es1)], w'.al ++ [Da], w'.F, w'.H⟩ rfl oo s2 (.ptr (by
        show (w'.al ++ [Da])[w'.st.length]? = some Da
        rw [List.getElem?_append_right (by rw [o'.len]; exact Nat.le_refl _), o'.len, Nat.sub_self]; rfl))
      exact q
    | false =>
      have z : Post K E (rD K) w1 (mkL false es1 w'.st) Q := by assumption
      have hsub : ∀ a x, w'.F a = some x → upd w'.F Da (.lst xs) a = some x := fun a x e => by rw [upd_ne (ne_of_none e fD)]; exact e
      have oo : Ok K ⟨w'.st, w'.al, upd w'.F Da (.lst xs), w'.H⟩ := by
        refine ⟨o'.len, fun a x e => ?_, fun j cl h => ?_, o'.inj⟩
        · have e' : upd w'.F Da (.lst xs) a = some x := e
          by_cases q : a = Da
          · subst q; rw [upd_same] at e'; rw [← e']; exact hD
          · rw [upd_ne q] at e'; exact o'.sub _ _ e'
        · obtain ⟨a, e, f, ca⟩ := o'.own j cl h
          have na : a ≠ Da := fun z => oD ⟨j, ⟨cl, h⟩, by rw [← z]; exact e⟩
          exact ⟨a, e, (show upd w'.F Da _ a = none by rw [upd_ne na]; exact f), ca.mono (Le.of hsub) (Pre.refl _) rfl⟩
      have s2 : Step w1 ⟨w'.st, w'.al, upd w'.F Da (.lst xs), w'.H⟩ := by
        refine ⟨st'.pre, st'.le.trans (Le.of hsub), st'.frame, fun b e t n => ?_, st'.there, st'.news⟩
        have nb : b ≠ Da := fun q => e (by rw [q]; exact nD)
        show upd w'.F Da _ b = w1.F b
        rw [upd_ne nb]; exact st'.old b e t n
      have q := z (.ref Da) ⟨w'.st, w'.al, upd w'.F Da (.lst xs), w'.H⟩ rfl oo s2 (.lst (show upd w'.F Da _ Da = _ from upd_same) (rs.mono (Le.of hsub) (Pre.refl _)))
      exact q
  | succ m =>
    have hi' : i < ds.length := by omega
    have ed : ds[i]? = some ds[i] := List.getElem?_eq_getElem hi'
    obtain ⟨g1, g2⟩ := hgo i _ ed
    have side : ∀ w2 : Ws, Ok K w2 → Step w' w2 → w2.H Da = some (.lst xs) ∧ w2.F Da = none ∧ ¬ Own w2 Da := fun w2 o2 s2 => by
      have hne : w'.H Da ≠ none := by rw [hD]; exact Option.some_ne_none _
      exact ⟨s2.frame _ _ hD oD, (s2.old _ hne (fun ys z => by rw [hD] at z; cases z) oD).trans fD, fun z => (s2.news _ z).elim oD hne⟩
    refine .inr ⟨g1, fun H2 => ∃ w2 es2 ys, w2.H = H2 ∧ Ok K w2 ∧ Step w1 w2 ∧ H2 Da = some (.lst ys) ∧ w2.F Da = none ∧ ¬ Own w2 Da ∧ Reps K w2.F w2.al ys es2 ∧ lcL gt ft fe (wipeD sl vs) (ds.drop (i + 1)) es2 w2.st = some (.ok es st),
      fun H2 ⟨w2, es2, ys, h1, h2, h3, h4, h5, h6, h7, h8⟩ => ⟨m, by omega, by omega, w2, es2, ys, h1, h2, h3, h4, h5, h6, h7, h8⟩, fun x H' hy => ?_⟩
    obtain ⟨w2, rfl, est, o2, st2, rx⟩ := g2 x H' hy
    rw [List.drop_eq_getElem_cons hi'] at hW
    obtain ⟨sl2, sta, e1, hW⟩ := bnd_okI hW
    obtain ⟨b, stb, e2, hW⟩ := bnd_okI hW
    refine hg x ds[i] (wipeD sl vs) (wipe σ vs) w2 _ o2 rx ((slots_wipe ((s.step s1).step st') vs).step st2) (post_of_ok (by rw [est]; exact e1) fun σ3 w3 q3 o3 s3 r3 => ?_)
    refine ⟨by rw [r3.2]; exact hww σ, ?_⟩
    refine ht sl2 σ3 w3 _ o3 r3.1 (post_of_ok (by rw [q3]; exact e2) fun v w4 q4 o4 s4 r4 => ?_)
    have r4 : v = b := r4
    subst r4
    have st4 : Step w' w4 := (st2.trans s3).trans s4
    cases v with
    | false =>
      refine (if_neg Bool.false_ne_true).mpr ?_
      obtain ⟨a1, a2, a3⟩ := side w4 o4 st4
      exact ⟨w4, es1, xs, rfl, o4, st'.trans st4, a1, a2, a3, rs.mono st4.le st4.pre, by rw [q4]; exact hW⟩
    | true =>
      refine (if_pos rfl).mpr ?_
      obtain ⟨y, stc, e3, hW⟩ := bnd_okI hW
      have hl : es1.length < sizeLine := by
        by_cases z : es1.length < sizeLine
        · exact z
        · rw [if_neg z] at hW; cases hW
      rw [if_pos hl] at hW
      refine he sl2 σ3 w4 _ o4 (r3.1.step s4) (post_of_ok (by rw [q4]; exact e3) fun u w5 q5 o5 s5 r5 => ?_)
      have st5 : Step w' w5 := st4.trans s5
      obtain ⟨a1, a2, a3⟩ := side w5 o5 st5
      refine ⟨xs, a1, by rw [rs.length]; exact hl, w5.side Da (.lst (xs ++ [u])), es1 ++ [y], xs ++ [u], rfl, ok_side o5 a2 a3 _, step_side (st'.trans st5) nD _, upd_same, a2, a3, ?_, by show lcL _ _ _ _ _ _ w5.st = _; rw [q5]; exact hW⟩
      exact (rs.mono st5.le st5.pre).append (.cons r5 .nil)
end
section
variable {X : Cx} {E E' : XK} {elt tg iter c : Expr} {pos : Pos} {scope : Scope} {own : List (Str × Nat)} {fi : FA} {gt : FG} {ft : FT} {fe : FE} {g : TG}
theorem wipe_wipe (σ : St) (vs : List Nat) : wipe (wipe σ vs) vs = wipe σ vs := by
  have h : ∀ (us : List Nat), (∀ u ∈ us, u ∈ vs) → wipe (wipe σ us) vs = wipe σ vs := by
    intro us
    induction us with
    | nil => intro _; rfl
    | cons u r ih =>
      intro hu
      show wipe ((wipe σ r).set u none) vs = _
      rw [wipe_set (hu u List.mem_cons_self)]
      exact ih fun x hx => hu x (List.mem_cons_of_mem _ hx)
  exact h vs fun _ hx => hx
/-- [e for x in xs]; b: the result a cell -/
theorem me_lc (b : Bool) (hc : X.calm = true) (hN : X.N.Nodup) (hi : MI X E tg iter fi) (ok : BlkOk X.N X.env.scope scope own)
    (hg : ∀ (s : Shared) (H : Hp) (C : Addr) (cl : List (Str × Addr)) (fp : List Addr), PG (X.blk s H scope (compEnvC scope cl C X.env) fp) tg g) (hgr : RfGW X.K E' (own.map (·.2)) g gt)
    (he : ∀ (s : Shared) (H : Hp) (C : Addr) (cl : List (Str × Addr)) (fp : List Addr), ME (X.blk s H scope (compEnvC scope cl C X.env) fp) E' elt fe) (hs : ∀ x, foldedSetIterable iter X.env x = pure x := by intro _; rfl) :
    ME X E (.ListComp elt [⟨tg, iter, [], 0⟩] scope pos) (mLc b fi gt tYesD fe (own.map (·.2))) := by
  obtain ⟨wi, p, q⟩ := hi.ex
  refine ⟨_, pe_lc hc hN p ok hg (fun _ _ _ _ _ => pts_nil) (fun s H C cl fp => (show PE (X.blk s H scope (compEnvC scope cl C X.env) fp) elt (tE X.K E' fe) from (he s H C cl fp).can)) hs, ?_⟩
  refine ref_lc (E' := E') b q hgr (fun sl σ w Q o s h => post_ret o rfl h) (fun sl σ w Q o s h => ⟨sl, w, rfl, o, s, h⟩) fun σ => wipe_wipe σ _
/-- [e for x in xs if c] -/
theorem me_lcIf (b : Bool) (hc : X.calm = true) (hN : X.N.Nodup) (hi : MI X E tg iter fi) (ok : BlkOk X.N X.env.scope scope own)
    (hg : ∀ (s : Shared) (H : Hp) (C : Addr) (cl : List (Str × Addr)) (fp : List Addr), PG (X.blk s H scope (compEnvC scope cl C X.env) fp) tg g) (hgr : RfGW X.K E' (own.map (·.2)) g gt)
    (ht : ∀ (s : Shared) (H : Hp) (C : Addr) (cl : List (Str × Addr)) (fp : List Addr), MT (X.blk s H scope (compEnvC scope cl C X.env) fp) E' c ft)
    (he : ∀ (s : Shared) (H : Hp) (C : Addr) (cl : List (Str × Addr)) (fp : List Addr), ME (X.blk s H scope (compEnvC scope cl C X.env) fp) E' elt fe) (hs : ∀ x, foldedSetIterable iter X.env x = pure x := by intro _; rfl) :
    ME X E (.ListComp elt [⟨tg, iter, [c], 0⟩] scope pos) (mLc b fi gt ft fe (own.map (·.2))) := by
  obtain ⟨wi, p, q⟩ := hi.ex
  refine ⟨_, pe_lc hc hN p ok hg (fun s H C cl fp => pts_one (show PT (X.blk s H scope (compEnvC scope cl C X.env) fp) c (tT X.K E' ft) from (ht s H C cl fp).can)) (fun s H C cl fp => (show PE (X.blk s H scope (compEnvC scope cl C X.env) fp) elt (tE X.K E' fe) from (he s H C cl fp).can)) hs, ?_⟩
  refine ref_lc (E' := E') b q hgr (fun sl σ w Q o s h => ⟨sl, w, rfl, o, s, h⟩) (fun sl σ w Q o s h => ⟨sl, w, rfl, o, s, h⟩) fun σ => wipe_wipe σ _
end
end M

namespace M
open PySem L2
section
variable {κ : Type} [DecidableEq κ]
def lookD (kvs : List (κ × D)) (k : κ) : Option D := (kvs.find? fun kv => decide (kv.1 = k)).map (·.2)
def putD (kvs : List (κ × D)) (k : κ) (v : D) : List (κ × D) :=
  if (kvs.any fun kv => decide (kv.1 = k)) = true then kvs.map (fun kv => if kv.1 = k then (kv.1, v) else kv) else kvs ++ [(k, v)]
def dropD (kvs : List (κ × D)) (k : κ) : List (κ × D) := kvs.filter fun kv => decide (kv.1 ≠ k)
variable {K : PySem.W.Frag} {F : Hp} {α : List Addr}
theorem look_some {k : κ} {d : D} : ∀ {kvs : List (κ × V)} {ds : List (κ × D)}, kvs.map (·.1) = ds.map (·.1) → Reps K F α (kvs.map (·.2)) (ds.map (·.2)) → lookD ds k = some d → ∃ v, valV kvs k = some v ∧ Rep K F α v d
  | [], [], _, _, h => by cases h
  | [], _ :: _, e, _, _ => by cases e
  | _ :: _, [], e, _, _ => by cases e
  | (k1, v1) :: r, (k2, d2) :: q, e, rs, h => by
    injection e with e1 e2
    have e1 : k1 = k2 := e1
    subst e1
    cases rs with
    | cons r1 r2 =>
      by_cases z : k1 = k
      · unfold lookD at h
        rw [List.find?_cons_of_pos (by simp [z])] at h
        cases h
        exact ⟨v1, valV_pos z, r1⟩
      · unfold lookD at h
        rw [List.find?_cons_of_neg (by simp [z])] at h
        rw [valV_neg z]
        exact look_some e2 r2 h
theorem look_none {k : κ} : ∀ {kvs : List (κ × V)} {ds : List (κ × D)}, kvs.map (·.1) = ds.map (·.1) → lookD ds k = none → valV kvs k = none
  | [], [], _, h => rfl
  | [], _ :: _, e, _ => by cases e
  | _ :: _, [], e, _ => by cases e
  | (k1, v1) :: r, (k2, d2) :: q, e, h => by
    injection e with e1 e2
    have e1 : k1 = k2 := e1
    subst e1
    by_cases z : k1 = k
    · unfold lookD at h
      rw [List.find?_cons_of_pos (by simp [z])] at h
      cases h
    · unfold lookD at h
      rw [List.find?_cons_of_neg (by simp [z])] at h
      rw [valV_neg z]
      exact look_none e2 h
theorem look_is {k : κ} {kvs : List (κ × V)} {ds : List (κ × D)} (e : kvs.map (·.1) = ds.map (·.1)) (r : Reps K F α (kvs.map (·.2)) (ds.map (·.2))) : (valV kvs k).isSome = (lookD ds k).isSome := by
  cases h : lookD ds k with
  | none => rw [look_none e h]; rfl
  | some d => obtain ⟨v, hv, _⟩ := look_some e r h; rw [hv]; rfl
theorem any_key {k : κ} : ∀ {kvs : List (κ × V)} {ds : List (κ × D)}, kvs.map (·.1) = ds.map (·.1) → (kvs.any fun kv => decide (kv.1 = k)) = ds.any fun kv => decide (kv.1 = k)
  | [], [], _ => rfl
  | [], _ :: _, e => by cases e
  | _ :: _, [], e => by cases e
  | (k1, v1) :: r, (k2, d2) :: q, e => by
    injection e with e1 e2
    have e1 : k1 = k2 := e1
    subst e1
    rw [List.any_cons, List.any_cons, any_key e2]
theorem map_key {k : κ} {v : V} {d : D} (rv : Rep K F α v d) : ∀ {kvs : List (κ × V)} {ds : List (κ × D)}, kvs.map (·.1) = ds.map (·.1) → Reps K F α (kvs.map (·.2)) (ds.map (·.2)) →
    (kvs.map fun kv => if kv.1 = k then (kv.1, v) else kv).map (·.1) = (ds.map fun kv => if kv.1 = k then (kv.1, d) else kv).map (·.1) ∧ Reps K F α ((kvs.map fun kv => if kv.1 = k then (kv.1, v) else kv).map (·.2)) ((ds.map fun kv => if kv.1 = k then (kv.1, d) else kv).map (·.2))
  | [], [], _, _ => ⟨rfl, .nil⟩
  | [], _ :: _, e, _ => by cases e
  | _ :: _, [], e, _ => by cases e
  | (k1, v1) :: r, (k2, d2) :: q, e, rs => by
    injection e with e1 e2
    have e1 : k1 = k2 := e1
    subst e1
    cases rs with
    | cons r1 r2 =>
      obtain ⟨i1, i2⟩ := map_key rv e2 r2
      rw [List.map_cons, List.map_cons, List.map_cons, List.map_cons, List.map_cons, List.map_cons]
      by_cases z : k1 = k
      · simp only [z, if_true]
        exact ⟨congrArg _ i1, .cons rv i2⟩
      · simp only [z, if_false]
        exact ⟨congrArg _ i1, .cons r1 i2⟩
theorem put_rep {k : κ} {v : V} {d : D} (rv : Rep K F α v d) {kvs : List (κ × V)} {ds : List (κ × D)} (e : kvs.map (·.1) = ds.map (·.1)) (r : Reps K F α (kvs.map (·.2)) (ds.map (·.2))) :
    (putK kvs k v).map (·.1) = (putD ds k d).map (·.1) ∧ Reps K F α ((putK kvs k v).map (·.2)) ((putD ds k d).map (·.2)) := by
  unfold putK putD
  rw [any_key e]
  split
  · exact map_key rv e r
  · rw [List.map_append, List.map_append, List.map_append, List.map_append, e]
    exact ⟨rfl, r.append (.cons rv .nil)⟩
theorem len_key {kvs : List (κ × V)} {ds : List (κ × D)} (e : kvs.map (·.1) = ds.map (·.1)) : kvs.length = ds.length := by
  have := congrArg List.length e
  rwa [List.length_map, List.length_map] at this
theorem drop_rep {k : κ} : ∀ {kvs : List (κ × V)} {ds : List (κ × D)}, kvs.map (·.1) = ds.map (·.1) → Reps K F α (kvs.map (·.2)) (ds.map (·.2)) → (dropK kvs k).map (·.1) = (dropD ds k).map (·.1) ∧ Reps K F α ((dropK kvs k).map (·.2)) ((dropD ds k).map (·.2))
  | [], [], _, _ => ⟨rfl, .nil⟩
  | [], _ :: _, e, _ => by cases e
  | _ :: _, [], e, _ => by cases e
  | (k1, v1) :: r, (k2, d2) :: q, e, rs => by
    injection e with e1 e2
    have e1 : k1 = k2 := e1
    subst e1
    cases rs with
    | cons r1 r2 =>
      obtain ⟨i1, i2⟩ := drop_rep (k := k) e2 r2
      unfold dropK dropD at i1 i2 ⊢
      by_cases z : k1 = k
      · rw [List.filter_cons_of_neg (by simp [z]), List.filter_cons_of_neg (by simp [z])]
        exact ⟨i1, i2⟩
      · rw [List.filter_cons_of_pos (by simp [z]), List.filter_cons_of_pos (by simp [z])]
        exact ⟨congrArg _ i1, .cons r1 i2⟩
end
/-! ### dicts, still or cells -/
def cellK (st : Sto) (i : Nat) : Option (List (Key × D)) := match st[i]? with
  | some (some (.dct ds)) => some ds
  | _ => none
theorem cellK_some {st : Sto} {i : Nat} {ds : List (Key × D)} (h : cellK st i = some ds) : st[i]? = some (some (.dct ds)) := by
  unfold cellK at h
  split at h
  · rename_i e q; cases h; exact q
  · cases h
def cellT (st : Sto) (i : Nat) : Option (List (List Key × D)) := match st[i]? with
  | some (some (.dcT ds)) => some ds
  | _ => none
theorem cellT_some {st : Sto} {i : Nat} {ds : List (List Key × D)} (h : cellT st i = some ds) : st[i]? = some (some (.dcT ds)) := by
  unfold cellT at h
  split at h
  · rename_i e q; cases h; exact q
  · cases h
def dkOf (st : Sto) : D → Option (List (Key × D))
  | .dct ds => some ds
  | .ptr i => cellK st i
  | _ => none
def dtOf (st : Sto) : D → Option (List (List Key × D))
  | .dcT ds => some ds
  | .ptr i => cellT st i
  | _ => none
theorem dkOf_rep {K : PySem.W.Frag} {w : Ws} (o : Ok K w) {v : V} {d : D} {ds : List (Key × D)} (r : Rep K w.F w.al v d) (h : dkOf w.st d = some ds) : ∃ a kvs, v = .ref a ∧ Rd w.H a (.dK kvs) ∧ kvs.map (·.1) = ds.map (·.1) ∧ Reps K w.F w.al (kvs.map (·.2)) (ds.map (·.2)) := by
  cases d with
  | dct es =>
    obtain ⟨a, kvs, e, f, ek, rs⟩ := r.dct_inv
    cases h
    exact ⟨a, kvs, e, rd_of o.sub f, ek, rs⟩
  | ptr i =>
    obtain ⟨a, e, _, _, ca⟩ := cell_at o r (cellK_some h)
    cases ca with
    | dct hx ek rs => exact ⟨a, _, e, .inl hx, ek, rs⟩
  | _ => cases h
theorem dtOf_rep {K : PySem.W.Frag} {w : Ws} (o : Ok K w) {v : V} {d : D} {ds : List (List Key × D)} (r : Rep K w.F w.al v d) (h : dtOf w.st d = some ds) : ∃ a kvs, v = .ref a ∧ Rd w.H a (.dT kvs) ∧ kvs.map (·.1) = ds.map (·.1) ∧ Reps K w.F w.al (kvs.map (·.2)) (ds.map (·.2)) := by
  cases d with
  | dcT es =>
    obtain ⟨a, kvs, e, f, ek, rs⟩ := r.dcT_inv
    cases h
    exact ⟨a, kvs, e, rd_of o.sub f, ek, rs⟩
  | ptr i =>
    obtain ⟨a, e, _, _, ca⟩ := cell_at o r (cellT_some h)
    cases ca with
    | dcT hx ek rs => exact ⟨a, _, e, .inl hx, ek, rs⟩
  | _ => cases h
/-- a key -/
def keyOf : D → Option Key
  | .int i => some (.inl i)
  | .str s => some (.inr s)
  | _ => none
def keysOf : List D → Option (List Key)
  | [] => some []
  | d :: r => match keyOf d, keysOf r with
    | some k, some ks => some (k :: ks)
    | _, _ => none
theorem keyOf_rep {K : PySem.W.Frag} {F : Hp} {α : List Addr} {v : V} {d : D} {k : Key} (r : Rep K F α v d) (h : keyOf d = some k) : v = kV k := by
  cases d with
  | int i => cases h; exact r.int_inv
  | str i => cases h; exact r.str_inv
  | _ => cases h
theorem keysOf_rep {K : PySem.W.Frag} {F : Hp} {α : List Addr} : ∀ {vs : List V} {ds : List D} {ks : List Key}, Reps K F α vs ds → keysOf ds = some ks → vs = ks.map kV
  | _, _, _, .nil, h => by cases h; rfl
  | _, _, ks, .cons (v := v) (d := d) (vs := vs) (ds := ds) r rs, h => by
    have h : (match keyOf d, keysOf ds with
      | some k, some ks => some (k :: ks)
      | _, _ => none) = some ks := h
    cases q : keyOf d with
    | none => rw [q] at h; cases h
    | some k =>
      cases q2 : keysOf ds with
      | none => rw [q, q2] at h; cases h
      | some ks2 =>
        rw [q, q2] at h
        cases h
        rw [keyOf_rep r q, keysOf_rep rs q2]; rfl
/-- what a dict says of a key: not a dict or no key; not there; there -/
def dGet (st : Sto) (x y : D) : Option (Option D) := match y with
  | .tup ks => match dtOf st x, keysOf ks with
    | some ds, some k => some (lookD ds k)
    | _, _ => none
  | y => match dkOf st x, keyOf y with
    | some ds, some k => some (lookD ds k)
    | _, _ => none
theorem dGet_rep {K : PySem.W.Frag} {w : Ws} (o : Ok K w) {x y : V} {dx dy : D} {r : Option D} (rx : Rep K w.F w.al x dx) (ry : Rep K w.F w.al y dy) (h : dGet w.st dx dy = some r) :
    ∃ a rv, x = .ref a ∧ DGet w.H a y rv ∧ IsD w.H a ∧ rv.isSome = r.isSome ∧ ∀ d, r = some d → ∃ v, rv = some v ∧ Rep K w.F w.al v d := by
  have viaK : (match dkOf w.st dx, keyOf dy with
    | some ds, some k => some (lookD ds k)
    | _, _ => none) = some r → ∃ a rv, x = .ref a ∧ DGet w.H a y rv ∧ IsD w.H a ∧ rv.isSome = r.isSome ∧ ∀ d, r = some d → ∃ v, rv = some v ∧ Rep K w.F w.al v d := fun h => by
    cases q : dkOf w.st dx with
    | none => rw [q] at h; cases h
    | some ds =>
      cases q2 : keyOf dy with
      | none => rw [q, q2] at h; cases h
      | some k =>
        rw [q, q2] at h
        injection h with h
        obtain ⟨a, kvs, rfl, hr, ek, rs⟩ := dkOf_rep o rx q
        refine ⟨a, valV kvs k, rfl, .inl ⟨kvs, k, hr, keyOf_rep ry q2, rfl⟩, .inl ⟨kvs, hr⟩, by rw [look_is ek rs, h], fun d e => ?_⟩
        rw [e] at h
        exact look_some ek rs h
  cases dy with
  | tup ks =>
    have h : (match dtOf w.st dx, keysOf ks with
      | some ds, some k => some (lookD ds k)
      | _, _ => none) = some r := h
    cases q : dtOf w.st dx with
    | none => rw [q] at h; cases h
    | some ds =>
      cases q2 : keysOf ks with
      | none => rw [q, q2] at h; cases h
      | some k =>
        rw [q, q2] at h
        injection h with h
        obtain ⟨a, kvs, rfl, hr, ek, rs⟩ := dtOf_rep o rx q
        obtain ⟨b, xs, rfl, hb, rxs⟩ := ry.tup_inv
        refine ⟨a, valV kvs k, rfl, .inr ⟨kvs, k, b, hr, rfl, by rw [← keysOf_rep rxs q2]; exact o.sub _ _ hb, rfl⟩, .inr ⟨kvs, hr⟩, by rw [look_is ek rs, h], fun d e => ?_⟩
        rw [e] at h
        exact look_some ek rs h
  | int i => exact viaK h
  | str i => exact viaK h
  | _ => exact viaK h
section
variable {X : Cx} {E : XK} {K : PySem.W.Frag} {a b c e o i : Expr} {es rest : List Expr} {fa fb fc fi : FE} {fs : FA} {ta tb tc : TE} {pos apos cpos : Pos}
def mDGet (fo fi : FE) : FE := fun sl st => bnd (fo sl st) fun x st => bnd (fi sl st) fun y st => match dGet st x y with
  | some (some d) => ret d st
  | _ => none
theorem me_dget (hu : X.A.units + 1 < cLine) (ho : ME X E o fa) (hi : ME X E i fi) (hs : NoSl i := by exact fun _ _ => rfl) : ME X E (.Subscript o i pos) (mDGet fa fi) := by
  obtain ⟨t, p, q⟩ := ho.ex
  obtain ⟨t', p', q'⟩ := hi.ex
  refine ⟨_, pe_dget hu p p' hs, fun sl σ w Q o s h => ?_⟩
  refine q sl σ w _ o s (post_bnd h fun x dx w1 o1 s1 rx h1 => ?_)
  refine q' sl σ w1 _ o1 (s.step s1) (post_bnd h1 fun y dy w2 o2 s2 ry h2 => ?_)
  have rx := rx.mono s2.le s2.pre
  cases g : dGet w2.st dx dy with
  | none => simp only [g] at h2; exact h2.elim
  | some r =>
    cases r with
    | none => simp only [g] at h2; exact h2.elim
    | some d =>
      simp only [g] at h2
      obtain ⟨a, rv, rfl, hg, _, _, hd⟩ := dGet_rep o2 rx ry g
      obtain ⟨v, rfl, rv⟩ := hd d rfl
      exact ⟨a, v, rfl, hg, post_ret o2 rv h2⟩
def mDIn (n : Bool) (fi fo : FE) : FE := fun sl st => bnd (fi sl st) fun y st => bnd (fo sl st) fun x st => match dGet st x y with
  | some r => ret (.bl (if n then !r.isSome else r.isSome)) st
  | none => none
theorem ref_din (hi : RefE K E tb fi) (ho : RefE K E ta fa) : RefE K E (tDIn tb ta) (mDIn false fi fa) := fun sl σ w Q o s h => by
  refine hi sl σ w _ o s (post_bnd h fun y dy w1 o1 s1 ry h1 => ?_)
  refine ho sl σ w1 _ o1 (s.step s1) (post_bnd h1 fun x dx w2 o2 s2 rx h2 => ?_)
  have ry := ry.mono s2.le s2.pre
  cases g : dGet w2.st dx dy with
  | none => simp only [g] at h2; exact h2.elim
  | some r =>
    simp only [g] at h2
    obtain ⟨a, rv, rfl, hg, _, e, _⟩ := dGet_rep o2 rx ry g
    exact ⟨a, rv, rfl, hg, by rw [e]; exact post_ret o2 (.bl _) h2⟩
theorem ref_dnotin (hi : RefE K E tb fi) (ho : RefE K E ta fa) : RefE K E (tDNotIn tb ta) (mDIn true fi fa) := fun sl σ w Q o s h => by
  refine hi sl σ w _ o s (post_bnd h fun y dy w1 o1 s1 ry h1 => ?_)
  refine ho sl σ w1 _ o1 (s.step s1) (post_bnd h1 fun x dx w2 o2 s2 rx h2 => ?_)
  have ry := ry.mono s2.le s2.pre
  cases g : dGet w2.st dx dy with
  | none => simp only [g] at h2; exact h2.elim
  | some r =>
    simp only [g] at h2
    obtain ⟨a, rv, rfl, hg, _, e, _⟩ := dGet_rep o2 rx ry g
    exact ⟨a, rv, rfl, hg, by rw [e]; exact post_ret o2 (.bl _) h2⟩
theorem me_din (hu : X.A.units + 1 < cLine) (hi : ME X E i fi) (ho : ME X E o fa) (h1 : behindInMarks .In o = false := by rfl) : ME X E (.Compare i [.In] [o] pos) (mDIn false fi fa) := by
  obtain ⟨t, p, q⟩ := ho.ex
  obtain ⟨t', p', q'⟩ := hi.ex
  exact ⟨_, pe_cmp (pc_din hu p' p) h1, ref_din q' q⟩
theorem me_dnotin (hu : X.A.units + 1 < cLine) (hi : ME X E i fi) (ho : ME X E o fa) (h1 : behindInMarks .NotIn o = false := by rfl) : ME X E (.Compare i [.NotIn] [o] pos) (mDIn true fi fa) := by
  obtain ⟨t, p, q⟩ := ho.ex
  obtain ⟨t', p', q'⟩ := hi.ex
  exact ⟨_, pe_cmp (pc_dnotin hu p' p) h1, ref_dnotin q' q⟩
theorem mt_din (hu : X.A.units + 1 < cLine) (hi : ME X E i fi) (ho : ME X E o fa) (h1 : behindInMarks .In o = false := by rfl) : MT X E (.Compare i [.In] [o] pos) (mB (mDIn false fi fa)) := by
  obtain ⟨t, p, q⟩ := ho.ex
  obtain ⟨t', p', q'⟩ := hi.ex
  exact ⟨_, pt_cmp (pc_din hu p' p) h1, ref_B (ref_din q' q)⟩
theorem mt_dnotin (hu : X.A.units + 1 < cLine) (hi : ME X E i fi) (ho : ME X E o fa) (h1 : behindInMarks .NotIn o = false := by rfl) : MT X E (.Compare i [.NotIn] [o] pos) (mB (mDIn true fi fa)) := by
  obtain ⟨t, p, q⟩ := ho.ex
  obtain ⟨t', p', q'⟩ := hi.ex
  exact ⟨_, pt_cmp (pc_dnotin hu p' p) h1, ref_B (ref_dnotin q' q)⟩
/-- d.get(k, x) -/
def mDGet2 (fo fi fx : FE) : FE := fun sl st => bnd (fo sl st) fun x st => cond (isDct st x) (bnd (fi sl st) fun y st => bnd (fx sl st) fun z st => match dGet st x y with
    | some r => ret (r.getD z) st
    | none => none) none
where isDct (st : Sto) (x : D) : Bool := (dkOf st x).isSome || (dtOf st x).isSome
theorem isDct_rep {w : Ws} (o : Ok K w) {v : V} {d : D} (r : Rep K w.F w.al v d) (h : mDGet2.isDct w.st d = true) : ∃ a, v = .ref a ∧ IsD w.H a := by
  unfold mDGet2.isDct at h
  rw [Bool.or_eq_true] at h
  rcases h with h | h
  · obtain ⟨ds, e⟩ := Option.isSome_iff_exists.mp h
    obtain ⟨a, kvs, rfl, hr, _⟩ := dkOf_rep o r e
    exact ⟨a, rfl, .inl ⟨kvs, hr⟩⟩
  · obtain ⟨ds, e⟩ := Option.isSome_iff_exists.mp h
    obtain ⟨a, kvs, rfl, hr, _⟩ := dtOf_rep o r e
    exact ⟨a, rfl, .inr ⟨kvs, hr⟩⟩
theorem me_dget2 (hu : X.A.units + 1 < cLine) (ho : ME X E o fa) (hi : ME X E i fi) (hx : ME X E b fb) (m : M2 X o "get" apos i b cpos) : ME X E (.Call (.Attribute o "get" apos) [i, b] [] cpos) (mDGet2 fa fi fb) := by
  obtain ⟨t, p, q⟩ := ho.ex
  obtain ⟨t', p', q'⟩ := hi.ex
  obtain ⟨t2, p2, q2⟩ := hx.ex
  refine ⟨_, pe_dget2 hu p p' p2 m, fun sl σ w Q o s h => ?_⟩
  refine q sl σ w _ o s (post_bnd h fun x dx w1 o1 s1 rx h1 => ?_)
  cases hd : mDGet2.isDct w1.st dx with
  | false => simp only [hd] at h1; exact h1.elim
  | true =>
    simp only [hd] at h1
    obtain ⟨a0, rfl, isd⟩ := isDct_rep o1 rx hd
    refine ⟨a0, rfl, isd, ?_⟩
    refine q' sl σ w1 _ o1 (s.step s1) (post_bnd h1 fun y dy w2 o2 s2 ry h2 => ?_)
    refine q2 sl σ w2 _ o2 ((s.step s1).step s2) (post_bnd h2 fun z dz w3 o3 s3 rz h3 => ?_)
    have rx := (rx.mono s2.le s2.pre).mono s3.le s3.pre
    have ry := ry.mono s3.le s3.pre
    cases g : dGet w3.st dx dy with
    | none => simp only [g] at h3; exact h3.elim
    | some r =>
      simp only [g] at h3
      obtain ⟨a, rv, ea, hg, _, e, hd⟩ := dGet_rep o3 rx ry g
      cases ea
      refine ⟨rv, hg, ?_⟩
      cases r with
      | none =>
        cases rv with
        | none => exact post_ret o3 rz h3
        | some v => cases e
      | some d =>
        obtain ⟨v, rfl, rv⟩ := hd d rfl
        exact post_ret o3 rv h3
/-- {}: keys K (ints, texts) or T (tuples); a cell -/
def mDNewK : FE := fun _ st => ret (.ptr st.length) (st ++ [some (.dct [])])
def mDNewT : FE := fun _ st => ret (.ptr st.length) (st ++ [some (.dcT [])])
theorem ptr_new {w : Ws} (o : Ok K w) (p : Addr) (u : HO) (c : Cell) : Rep K (w.newC p u c).F (w.newC p u c).al (.ref p) (.ptr w.st.length) := .ptr (by
  show (w.al ++ [p])[w.st.length]? = some p
  rw [List.getElem?_append_right (by rw [o.len]; exact Nat.le_refl _), o.len, Nat.sub_self]; rfl)
theorem me_dnewK : ME X E (.Dict [] [] pos) mDNewK := ⟨_, pe_dnewK, fun sl σ w Q o s h p hp => h (.ref p) (w.newC p (.dK []) (.dct [])) rfl (ok_newC o hp (.dct upd_same rfl .nil)) (step_newC o hp _ _) (ptr_new o _ _ _)⟩
theorem me_dnewT : ME X E (.Dict [] [] pos) mDNewT := ⟨_, pe_dnewT, fun sl σ w Q o s h p hp => h (.ref p) (w.newC p (.dT []) (.dcT [])) rfl (ok_newC o hp (.dcT upd_same rfl .nil)) (step_newC o hp _ _) (ptr_new o _ _ _)⟩
/-- d[k] = v -/
def dPut (st : Sto) (x y v : D) : Option Sto := match x with
  | .ptr i => match y with
    | .tup ks => match cellT st i, keysOf ks with
      | some ds, some k => if ds.length < sizeLine then some (st.set i (some (.dcT (putD ds k v)))) else none
      | _, _ => none
    | y => match cellK st i, keyOf y with
      | some ds, some k => if ds.length < sizeLine then some (st.set i (some (.dct (putD ds k v)))) else none
      | _, _ => none
  | _ => none
def sDPut (fo fi fv : FE) : FS := fun sl st => bnd (fv sl st) fun v st => bnd (fo sl st) fun x st => bnd (fi sl st) fun y st => match dPut st x y v with
  | some st => ret (.nx sl) st
  | none => none
theorem dPut_rep {w : Ws} (o : Ok K w) {x y v : V} {dx dy dv : D} {st : Sto} (rx : Rep K w.F w.al x dx) (ry : Rep K w.F w.al y dy) (rv : Rep K w.F w.al v dv) (h : dPut w.st dx dy dv = some st) : ∃ a w1, x = .ref a ∧ DPut w.H a y v w1.H ∧ w1.st = st ∧ Ok K w1 ∧ Step w w1 := by
  cases dx with
  | ptr i =>
    have viaK : (match cellK w.st i, keyOf dy with
      | some ds, some k => if ds.length < sizeLine then some (w.st.set i (some (.dct (putD ds k dv)))) else none
      | _, _ => none) = some st → ∃ a w1, x = .ref a ∧ DPut w.H a y v w1.H ∧ w1.st = st ∧ Ok K w1 ∧ Step w w1 := fun h => by
      cases q : cellK w.st i with
      | none => rw [q] at h; cases h
      | some ds =>
        cases q2 : keyOf dy with
        | none => rw [q, q2] at h; cases h
        | some k =>
          simp only [q, q2] at h
          by_cases hl : ds.length < sizeLine
          · rw [if_pos hl] at h
            injection h with h
            obtain ⟨a, rfl, ea, _, ca⟩ := cell_at o rx (cellK_some q)
            have l : Live w.st i := ⟨_, cellK_some q⟩
            cases ca with
            | @dct kvs _ hx ek rs =>
              obtain ⟨p1, p2⟩ := put_rep (k := k) rv ek rs
              exact ⟨a, w.put i a (.dK (putK kvs k v)) (.dct (putD ds k dv)), rfl, .inl ⟨kvs, k, hx, keyOf_rep ry q2, by rw [len_key ek]; exact hl, rfl⟩, h, ok_put o l ea (.dct upd_same p1 p2), step_put o l ea _ _⟩
          · rw [if_neg hl] at h; cases h
    cases dy with
    | tup ks =>
      have h : (match cellT w.st i, keysOf ks with
        | some ds, some k => if ds.length < sizeLine then some (w.st.set i (some (.dcT (putD ds k dv)))) else none
        | _, _ => none) = some st := h
      cases q : cellT w.st i with
      | none => rw [q] at h; cases h
      | some ds =>
        cases q2 : keysOf ks with
        | none => rw [q, q2] at h; cases h
        | some k =>
          simp only [q, q2] at h
          by_cases hl : ds.length < sizeLine
          · rw [if_pos hl] at h
            injection h with h
            obtain ⟨a, rfl, ea, _, ca⟩ := cell_at o rx (cellT_some q)
            obtain ⟨b, xs, rfl, hb, rxs⟩ := ry.tup_inv
            have l : Live w.st i := ⟨_, cellT_some q⟩
            cases ca with
            | @dcT kvs _ hx ek rs =>
              obtain ⟨p1, p2⟩ := put_rep (k := k) rv ek rs
              exact ⟨a, w.put i a (.dT (putK kvs k v)) (.dcT (putD ds k dv)), rfl, .inr ⟨kvs, k, b, hx, rfl, by rw [← keysOf_rep rxs q2]; exact o.sub _ _ hb, by rw [len_key ek]; exact hl, rfl⟩, h, ok_put o l ea (.dcT upd_same p1 p2), step_put o l ea _ _⟩
          · rw [if_neg hl] at h; cases h
    | _ => exact viaK h
  | _ => cases h
theorem ms_dput {pos' : Pos} (hu : X.A.units + 1 < cLine) (ho : ME X E o fa) (hi : ME X E i fi) (hv : ME X E b fb) (hs : swapsWith b (some (.Subscript o i pos')) pos.line X.env = pure false := by rfl) : MS X E (.Assign [.Subscript o i pos'] b pos) (sDPut fa fi fb) := by
  obtain ⟨t, p, q⟩ := ho.ex
  obtain ⟨t', p', q'⟩ := hi.ex
  obtain ⟨t2, p2, q2⟩ := hv.ex
  refine ⟨_, ps_dput hu p p' p2 hs, fun sl σ w Q o s h => ?_⟩
  refine q2 sl σ w _ o s (post_bndS h fun v dv w1 o1 s1 rv h1 => ?_)
  refine q sl σ w1 _ o1 (s.step s1) (post_bndS h1 fun x dx w2 o2 s2 rx h2 => ?_)
  refine q' sl σ w2 _ o2 ((s.step s1).step s2) (post_bndS h2 fun y dy w3 o3 s3 ry h3 => ?_)
  have rx := rx.mono s3.le s3.pre
  have rv := (rv.mono s2.le s2.pre).mono s3.le s3.pre
  cases g : dPut w3.st dx dy dv with
  | none => simp only [g] at h3; exact h3.elim
  | some st =>
    simp only [g] at h3
    obtain ⟨a, w4, rfl, hp, e4, o4, s4⟩ := dPut_rep o3 rx ry rv g
    refine ⟨a, w4.H, rfl, hp, ?_⟩
    have h4 := PostS.step s4 h3
    rw [← e4] at h4
    exact postS_ret o4 h4 σ ((((s.step s1).step s2).step s3).step s4)
end
end M

namespace M
open PySem PySem.Spec L2
section
variable {X : Cx} {E : XK} {K : PySem.W.Frag} {a b c e o i : Expr} {es rest : List Expr} {fa fb fc fi : FE} {fs : FA} {ta tb tc : TE} {pos apos cpos p : Pos}
theorem me_gI {x : Str} {v : Int} (h : ∃ t, X.mg x = some (.int v t)) (hg : Gl X x := by rfl) (hd : (x == ("__debug__" : Str)) = false := by decide) : ME X E (.Name x pos) (mC (.int v)) := let ⟨_, e⟩ := h; me_globI hg e ⟨_, rfl⟩ hd
theorem me_gS {x : Str} {v : Str} (h : ∃ t, X.mg x = some (.str v t)) (hg : Gl X x := by rfl) (hd : (x == ("__debug__" : Str)) = false := by decide) : ME X E (.Name x pos) (mC (.str v)) := let ⟨_, e⟩ := h; me_globS hg e ⟨_, rfl⟩ hd
/-- a def of the text as a caller has it -/
structure Cal (P : Program) (w : World) (K : PySem.W.Frag) (mg : Str → Option Value) (base : Heap) (k : Nat) (x : Str) (ps : List Str) (m : List D → Sto → MM D) : Prop where
  ex : ∃ (f : Addr) (fd : FuncData), FnOk P w K mg base CX0 k f fd ps (spM K ps.length m) ∧ mg x = some (.ref f) ∧ PySem.W.keepIn K (.ref f) = true ∧ Binds K fd ps []
theorem me_cal {k : Nat} {x : Str} {ps : List Str} {m c : List D → Sto → MM D} (C : Cal X.prog X.w X.K X.mg X.base k x ps m) (hc : CallF X.K E ps.length m c) (hr : Room k X.A) (ha : MA X E (e :: es) fs) (hg : Gl X x := by rfl) (hdb : (x == ("__debug__" : Str)) = false := by decide)
    (he : starEach (e :: es) X.env = (false, eval e X.env) :: starEach es X.env := by rfl) (hpl : (backTo pos (starEach es X.env)).any (·.1) = false := by rfl) : ME X E (.Call (.Name x p) (e :: es) [] pos) (mCall c fs) := by
  obtain ⟨f, fd, F, h1, h2, h3⟩ := C.ex
  exact me_call F hc hr h1 h2 h3 (fun _ _ _ _ _ _ _ h => h.elim) ha hg hdb he hpl
/-- what promises nothing -/
theorem fn_none {P : Program} {w : World} {K : PySem.W.Frag} {mg : Str → Option Value} {base : Heap} {k : Nat} {f : Addr} {fd : FuncData} {ps : List Str} : FnOk P w K mg base CX0 k f fd ps (spM K ps.length fun _ _ => none) :=
  ⟨fun _ _ _ _ h => spM_len h, fun _ _ _ _ _ _ _ _ _ _ _ _ _ ⟨_, _, _, _, _, _, h⟩ => h.elim⟩
/-- what may be walked by a for: a list, a tuple, a text -/
def iAny (f : FE) : FA := fun sl st => bnd (f sl st) fun d st => match d with
  | .str x => ret (chrD x) st
  | .tup ds => ret ds st
  | d => match seqOf d with
    | some ds => ret ds st
    | none => none
theorem PI.or {X : Cx} {tg e : Expr} {w1 w2 : TI} (h1 : PI X tg e w1) (h2 : PI X tg e w2) : PI X tg e (fun σ H R => w1 σ H R ∨ w2 σ H R) := ⟨fun pins s σ H R I h => h.elim (h1.run pins s σ H R I) (h2.run pins s σ H R I)⟩
theorem mi_any {tg : Expr} (h : ME X E e fa) : MI X E tg e (iAny fa) := by
  obtain ⟨t1, p1, q1⟩ := (mi_list (tg := tg) h).ex
  obtain ⟨t2, p2, q2⟩ := (mi_tup (tg := tg) h).ex
  obtain ⟨t3, p3, q3⟩ := (mi_str (tg := tg) h).ex
  refine ⟨_, PI.or p1 (PI.or p2 p3), fun sl σ w R o s hp => ?_⟩
  have other : (∀ d st, fa sl w.st = some (.ok d st) → iAny fa sl w.st = iL fa sl w.st ∨ iAny fa sl w.st = iT fa sl w.st ∨ iAny fa sl w.st = iS fa sl w.st) := fun d st e => by
    unfold iAny iL iT iS
    rw [e]
    cases d with
    | str x => exact .inr (.inr rfl)
    | tup x => exact .inr (.inl rfl)
    | _ => exact .inl rfl
  cases hf : fa sl w.st with
  | none => unfold iAny at hp; rw [hf] at hp; exact hp.elim
  | some r =>
    cases r with
    | ok d st =>
      rcases other d st hf with z | z | z
      · rw [z] at hp; exact .inl (q1 sl σ w R o s hp)
      · rw [z] at hp; exact .inr (.inl (q2 sl σ w R o s hp))
      · rw [z] at hp; exact .inr (.inr (q3 sl σ w R o s hp))
    | exc x st =>
      have z : iAny fa sl w.st = iL fa sl w.st := by unfold iAny iL; rw [hf]; rfl
      rw [z] at hp; exact .inl (q1 sl σ w R o s hp)
/-! ### a, b = x, y -/
def sPar (i j : Nat) (f : FA) : FS := fun sl st => bnd (f sl st) fun ds st => match ds with
  | [x, y] => ret (.nx ((sl.set i (some x)).set j (some y))) st
  | _ => none
theorem ms_par {i j : Nat} {x y : Str} {px py pt : Pos} {kt k2 pt2} (hc : X.calm = true) (hN : X.N.Nodup) (ha : MA X E [a, b] fs) (hij : i ≠ j) (hi : X.N[i]? = some x := by rfl) (hj : X.N[j]? = some y := by rfl)
    (hx : X.env.scope.names.lookup x = some .local := by rfl) (hy : X.env.scope.names.lookup y = some .local := by rfl)
    (hw : swappedStores [.Tuple [.Name x px, .Name y py] kt pt] (.Tuple [a, b] k2 pt2) X.env = pure (some [x, y]) := by rfl)
    (hs : swapsWithSole [.Tuple [.Name x px, .Name y py] kt pt] (.Tuple [a, b] k2 pt2) pos.line X.env = pure false := by rfl) : MS X E (.Assign [.Tuple [.Name x px, .Name y py] kt pt] (.Tuple [a, b] k2 pt2) pos) (sPar i j fs) := by
  obtain ⟨t, p, q⟩ := ha.ex
  refine ⟨_, ps_par hc hN hi hj hij hx hy p hw hs, fun sl σ w D o s h => ?_⟩
  refine q sl σ w _ o s (post_bndS h fun vs ds w1 o1 s1 r hp => ?_)
  split at hp
  · obtain ⟨x, y, rfl, rx, ry⟩ := r.two_inv
    exact ⟨x, y, rfl, postS_ret o1 hp _ (((s.step s1).set rx).set ry)⟩
  · exact hp.elim
end
/-- the law: a plain run that ends in True -/
def spLaw (K : PySem.W.Frag) : Sp := fun vs H Q _ => ∃ (a : Addr) (ns : List Int), vs = [.ref a] ∧ SqL K H a (ns.map V.int) ∧ ns.length ≤ 63 ∧ ∀ H', Q (.bl true) H'
theorem law_of {P : Program} {w : World} {K : PySem.W.Frag} {mg : Str → Option Value} {base : Heap} {k : Nat} {f : Addr} {fd : FuncData} {ps : List Str} {m : List D → Sto → MM D} (F : FnOk P w K mg base CX0 k f fd ps (spM K 1 m)) (hm : ∀ ns : List Int, ns.length ≤ 63 → ∃ st, m [.scr ns] [] = some (.ok (.bl true) st)) :
    FnOk P w K mg base CX0 k f fd ps (spLaw K) := F.imp fun vs H Q E ⟨a, ns, e, h, hl, q⟩ => by
  subst e
  obtain ⟨st, e⟩ := hm ns hl
  refine ⟨⟨[], [], H, H⟩, [.scr ns], rfl, ⟨rfl, fun _ _ h => h, fun i c z => by simp at z, fun i j a ⟨c, z⟩ => by simp at z⟩, .cons (.scr h) .nil, rfl, ?_⟩
  show Post K E (rD K) _ (m [.scr ns] []) Q
  rw [e]
  intro v w' _ _ _ r
  rw [r.bl_inv]
  exact q _
end M

set_option maxHeartbeats 1000000
/-! Rules over the raw machine that the hand layer lacks. -/
namespace M
open PySem PySem.Spec PyProof.Rows L2
theorem LiI_get {α β : Type} {F : α → β → Prop} : ∀ {xs : List α} {ys : List β}, Paired F xs ys → ∀ {i : Nat} {x : α}, xs[i]? = some x → ∃ y, ys[i]? = some y ∧ F x y
  | _, _, .nil, i, x, h => by simp at h
  | _, _, .cons r t, 0, x, h => by
    have e := Option.some.inj h
    subst e
    exact ⟨_, rfl, r⟩
  | _, _, .cons r t, i + 1, x, h => LiI_get t h
def rKeysK : V → Hp → VK → Prop := fun x H Q => ∃ (d : Addr) (kvs : List (Key × V)), x = .ref d ∧ Rd H d (.dK kvs) ∧ ∀ p, H p = none → Q (.ref p) (upd H p (.lst (kvs.map fun kv => kV kv.1)))
def rKeysT : V → Hp → VK → Prop := fun x H Q => ∃ (d : Addr) (kvs : List (List Key × V)), x = .ref d ∧ Rd H d (.dT kvs) ∧ ∀ p bs, H p = none → IsKeys H kvs bs → Q (.ref p) (upd H p (.lst (bs.map V.ref)))
def tKeys (r : V → Hp → VK → Prop) (te : TE) : TE := fun σ H Q => te σ H fun x H1 => r x H1 Q
section
variable {X : Cx} {e : Expr} {te : TE} {p apos cpos pos : Pos}
theorem pgetK {kvs : List (Key × V)} {vs : List (Key × Value)} (r : KV kvs vs) {j : Nat} {x : Key × V} (h : kvs[j]? = some x) : ∃ y, vs[j]? = some y ∧ x.1 = y.1 ∧ RelV x.2 y.2 := LiI_get r h
/-- list(d.keys()) -/
theorem pe_listKeys (hc : X.calm = true) (he : PE X e te) (hm : X.mg "list" = none) (hg : Gl X "list" := by rfl) (hbase : attributeBase e "keys" X.env (eval e X.env) = eval e X.env := by rfl) (hline : (apos.endLine == cpos.line) = true := by rfl)
    (hs : starEach [.Call (.Attribute e "keys" apos) [] [] cpos] X.env = (false, eval (.Call (.Attribute e "keys" apos) [] [] cpos) X.env) :: starEach [] X.env := by rfl) :
    PE X (.Call (.Name "list" p) [.Call (.Attribute e "keys" apos) [] [] cpos] [] pos) (tKeys (fun x H Q => rKeysK x H Q ∨ rKeysT x H Q) te) := by
  refine ⟨fun pins s σ H Q I hq => ?_⟩
  refine wpAny_Call_Name_kw (ld_blt I hg hm (by decide +kernel : bootBuiltins "list" = some (.type "list")) ?_)
  refine PyProof.Rows.callWith_type1 ?_ hs rfl
  rw [hs]
  show wpAny _ _ (spliced ((false, eval (.Call (.Attribute e "keys" apos) [] [] cpos) X.env) :: backTo pos (starEach [] X.env))) _ _ s
  refine Calls.spliced_cons ?_
  refine wpAny_Call_method (T := "dict") (id := "dict.keys") hbase rfl hline F.plainAttrs_dict F.slot_dict_keys F.type_dict_keys (thn (he.run pins s σ H _ I hq) fun u s1 ⟨x, H1, I1, rx, h⟩ => ?_)
  have hd : ∃ d es ep, ∃ vs : List V, x = .ref d ∧ (d == sysModules) = false ∧ s1.heap.DictRaw d es ep ∧ es.size ≤ sizeLine ∧ vs.length ≤ sizeLine ∧ (∀ acc : Array Value, acc.size = es.size → (∀ j v, acc[j]? = some v → ∃ hi : j < es.size, v = es[j].key) → Vals vs acc.toList) ∧ ∀ p, H1 p = none → Q (.ref p) (upd H1 p (.lst vs)) := by
    rcases h with ⟨d, kvs, rfl, hd, q⟩ | ⟨d, kvs, rfl, hd, q⟩
    · obtain ⟨z, lo, vs, rel, dd⟩ := dk_rd I1.hok hd
      obtain ⟨es, ep, raw, hsz, hent⟩ := dd.raw
      refine ⟨d, es, ep, kvs.map fun kv => kV kv.1, rfl, lo, raw, by rw [hsz, ← rel.length]; exact z, by rw [List.length_map]; exact z, fun acc h1 h2 => ?_, q⟩
      refine vals_of_at (by have e1 := Paired.length rel; have e2 : acc.toList.length = acc.size := Array.length_toList; rw [List.length_map]; omega) fun j x v e1 e2 => ?_
      obtain ⟨hi, rfl⟩ := h2 j v (by rw [← Array.getElem?_toList]; exact e2)
      rw [List.getElem?_map] at e1
      cases ek : kvs[j]? with
      | none => rw [ek] at e1; cases e1
      | some kv =>
        rw [ek] at e1; cases e1
        obtain ⟨y, g1, g2, g3⟩ := pgetK rel ek
        obtain ⟨k', x'⟩ := y
        have g2 : kv.1 = k' := g2
        subst g2
        exact keyIs_rel (hent j hi _ _ g1).1
    · obtain ⟨z, lo, ks, pr, o, es, ep, ho, hx, hdt, hes, hn⟩ := (show ObjOk X.prog X.w H1 s1.heap d (.dT kvs) from hd.ok I1.hok)
      have hsz := size_of_entries hes
      refine ⟨d, es, ep, (ks.map fun x => x.2.1).map V.ref, rfl, lo, ⟨o, ho, hx, hdt⟩, by rw [hsz, ← Paired.length pr]; exact z, by rw [List.length_map, List.length_map, ← Paired.length pr]; exact z, fun acc h1 h2 => ?_, fun p hp => q p _ hp (isKeys_of pr)⟩
      refine vals_of_at (by have e2 : acc.toList.length = acc.size := Array.length_toList; rw [List.length_map, List.length_map]; omega) fun j x v e1 e2 => ?_
      obtain ⟨hi, rfl⟩ := h2 j v (by rw [← Array.getElem?_toList]; exact e2)
      rw [List.getElem?_map, List.getElem?_map] at e1
      cases ek : ks[j]? with
      | none => rw [ek] at e1; cases e1
      | some b =>
        rw [ek] at e1; cases e1
        have qe := entry_at hes j
        rw [Array.getElem?_eq_getElem hi, ek] at qe
        have e2 : es[j] = entryOfKey (tupleKind (mixKind X.prog X.w)) b := Option.some.inj qe
        rw [e2]
        rfl
  obtain ⟨d, es, ep, vs, rfl, lo, raw, hz, hzv, hvals, hq⟩ := hd
  obtain rfl : u = Value.ref d := rx
  have I2 : Inv X pins σ H1 { s1 with heap := s1.heap.push { cls := .type "dict_keys", data := .fields #[.ref d] } } := I1.kept (t' := s1.toks) fun b ob q => Heap.get?_push_of_some _ q
  refine ⟨raw.typeIs, fun a ea => by
    cases ea
    obtain ⟨o, ho, hx, _⟩ := raw
    exact ⟨o, ho, hx.2.1⟩, ?_⟩
  show wpAny _ _ (callWith cpos (.builtin "dict.keys") [.ref d] [] []) _ X.xe s1
  refine method_meetsIn F.slot_dict_keys F.entry_dict_keys rfl (PySem.evalArgs_none ⟨rfl, raw.typeIs, F.args_dict_keys_1 _, _, meets_dict_keys_raw d lo, ⟨es, ep, raw⟩, ?_⟩)
  refine Calls.spliced_nil ?_
  refine PySem.W.kdl_call (KdlSrc.rawKeys (r := s1.heap.objs.size) (d := d) (es := es) (ep := ep)) (I1.ok.hd hc) ⟨⟨_, Heap.get?_push_size _ rfl, rfl, rfl⟩, raw.at fun o e => Heap.get?_push_of_some _ e⟩ hz fun h' tk acc c hk hS hacc => ?_
  refine ⟨.ref _, upd H1 _ (.lst vs), I2.laid (t' := tk) hk (Nat.le_refl _) (show ObjOk X.prog X.w _ _ _ (.lst vs) from ⟨hzv, acc.toList, c, hvals acc hacc.1 hacc.2, by rw [Array.toArray_toList]; exact hS⟩), rfl, hq _ (I2.hok.fresh (Nat.le_refl _))⟩
end
end M

set_option maxHeartbeats 1000000
/-! max(xs, default=d), min(xs, default=d) over a list of whole numbers. -/
namespace M
open PySem PySem.Spec PyProof.Rows L2
namespace Mx
section
variable {prog : Program} {w : World} {A : Around} {R : Result → Shared → Prop} {J : Addr} {fp wr : List Addr} {n : Nat} {P : Nat → Value → Prop} {G : Nat → Heap → Prop} {kw : List (Str × Value)}
theorem maxTurns (W : Walks prog w A.in1 J fp wr n P G) (bt : Nat → Nat → Bool) (cmp : CmpOf prog w A.in1 .Gt P bt) (B : Addr) (nB : B ∉ fp) : ∀ (k j : Nat) (s : Shared) (u : Value) (c : Nat), n - (j + 1) = k → j + 1 ≤ n → G (j + 1) s.heap → P (argBest bt j) u →
    s.heap.get? B = some { cls := .type "list", dict := none, data := .seq #[u, u] c, slots := #[] } →
    (∀ v h' tk, P (argBest bt (n - 1)) v → (∀ b o, b ∉ wr → b ≠ B → s.heap.get? b = some o → h'.get? b = some o) → R (.ok (.ret v)) { s with heap := h', toks := tk }) → codeAny (model prog w) A (.builtin "max.loop" ⟨[.ref J, .none, .ref B], kw⟩) R s := by
  have wB : B ∉ wr := fun z => nB (W.sub _ z)
  have nm : (toString "max" ++ toString ".loop" : String) = "max.loop" := by decide
  intro k
  induction k with
  | zero =>
    intro j s u c hk hj hG hP hB hR
    have ej : j + 1 = n := by omega
    refine codeAny_builtin F.entry_max_loop ?_
    rw [Around.under_plainId F.plain_max_loop _]
    show wpAny _ _ (seqItems? (Value.ref B) >>= _) _ _ _
    refine wpAny_bind (wpAny_seqItems hB rfl ?_)
    show wpAny _ _ (tryCatch (pyNext (Value.ref J)) _ >>= _) _ _ _
    refine wpAny_bind (wpAny_tryCatch (W.done s _ _ (ej ▸ hG) fun h1 tk k1 => ?_))
    have hB1 := k1 B _ wB hB
    show wpAny _ _ (updateSeq B (fun _ => #[]) >>= _) _ _ _
    refine wpAny_bind (wpAny_updateSeq hB1 rfl (wpAny_bind (wpAny_letGo (wpAny_pure ?_))))
    exact hR u _ tk (by rw [← ej]; exact hP) fun b o n1 n2 e => (Heap.get?_update_other _ _ (Ne.symm n2)).trans (k1 b o n1 e)
  | succ k ih =>
    intro j s u c hk hj hG hP hB hR
    have lt : j + 1 < n := by omega
    refine codeAny_builtin F.entry_max_loop ?_
    rw [Around.under_plainId F.plain_max_loop _]
    show wpAny _ _ (seqItems? (Value.ref B) >>= _) _ _ _
    refine wpAny_bind (wpAny_seqItems hB rfl ?_)
    show wpAny _ _ (tryCatch (pyNext (Value.ref J)) _ >>= _) _ _ _
    refine wpAny_bind (wpAny_tryCatch (W.item (j + 1) s _ _ lt hG fun v h1 tk hv hG1 k1 => ?_))
    have hB1 := k1 B _ wB hB
    show wpAny _ _ (tryCatch (holding [v, v] (richCompare CmpOp.Gt v u >>= _)) _ >>= _) _ _ _
    refine wpAny_bind (wpAny_tryCatch (wpAny_holding (wpAny_bind (cmp (j + 1) (argBest bt j) v u _ _ _ hv hP ?_))))
    refine wpAny_bind (wpAny_holding (wpAny_truthy_bool ?_))
    refine wpAny_bind (wpAny_letGo (wpAny_pure ?_))
    cases hb : bt (j + 1) (argBest bt j) with
    | true =>
      simp only [if_true]
      refine wpAny_bind (wpAny_updateSeq hB1 rfl (wpAny_bind (wpAny_letGo ?_)))
      rw [nm]
      refine wpAny_pure ⟨plainId_quiet F.plain_max_loop _, ih (j + 1) _ v _ (by omega) lt (W.frame _ _ _ hG1 fun b nb o e => (Heap.get?_update_other _ _ (fun z : B = b => nB (by rw [z]; exact nb))).trans e) (by simp only [argBest, hb, if_true]; exact hv) (Heap.get?_update_self _ hB1 rfl) fun v2 h2 tk2 hv2 k2 => ?_⟩
      exact hR v2 h2 tk2 hv2 fun b o n1 n2 e => k2 b o n1 n2 ((Heap.get?_update_other _ _ (Ne.symm n2)).trans (k1 b o n1 e))
    | false =>
      simp only [Bool.false_eq_true, if_false]
      refine wpAny_bind (wpAny_letGo ?_)
      rw [nm]
      refine wpAny_pure ⟨plainId_quiet F.plain_max_loop _, ih (j + 1) _ u c (by omega) lt hG1 (by simp only [argBest, hb, Bool.false_eq_true, if_false]; exact hP) hB1 fun v2 h2 tk2 hv2 k2 => ?_⟩
      exact hR v2 h2 tk2 hv2 fun b o n1 n2 e => k2 b o n1 n2 (k1 b o n1 e)
theorem maxFirst (W : Walks prog w A.in1 J fp wr n P G) (bt : Nat → Nat → Bool) (cmp : CmpOf prog w A.in1 .Gt P bt) (B : Addr) (nB : B ∉ fp) (d : Value) {s : Shared} {c : Nat} (hG : G 0 s.heap)
    (hB : s.heap.get? B = some { cls := .type "list", dict := none, data := .seq #[] c, slots := #[] })
    (hR : ∀ v h' tk, (if n = 0 then v = d else P (argBest bt (n - 1)) v) → (∀ b o, b ∉ wr → b ≠ B → s.heap.get? b = some o → h'.get? b = some o) → R (.ok (.ret v)) { s with heap := h', toks := tk }) :
    codeAny (model prog w) A (.builtin "max.loop" ⟨[.ref J, .none, .ref B], [("default", d)]⟩) R s := by
  have wB : B ∉ wr := fun z => nB (W.sub _ z)
  have nm : (toString "max" ++ toString ".loop" : String) = "max.loop" := by decide
  refine codeAny_builtin F.entry_max_loop ?_
  rw [Around.under_plainId F.plain_max_loop _]
  show wpAny _ _ (seqItems? (Value.ref B) >>= _) _ _ _
  refine wpAny_bind (wpAny_seqItems hB rfl ?_)
  show wpAny _ _ (tryCatch (pyNext (Value.ref J)) _ >>= _) _ _ _
  by_cases hn : n = 0
  · refine wpAny_bind (wpAny_tryCatch (W.done s _ _ (hn ▸ hG) fun h1 tk k1 => ?_))
    refine wpAny_bind ?_
    refine wpAny_rule ?_
    refine wpAny_pure ?_
    exact hR d h1 tk (by rw [if_pos hn]) fun b o n1 n2 e => k1 b o n1 e
  · refine wpAny_bind (wpAny_tryCatch (W.item 0 s _ _ (by omega) hG fun v h1 tk hv hG1 k1 => ?_))
    have hB1 := k1 B _ wB hB
    show wpAny _ _ (updateSeq B (fun _ => #[v, v]) >>= _) _ _ _
    refine wpAny_bind (wpAny_updateSeq hB1 rfl ?_)
    rw [nm]
    refine wpAny_pure ⟨plainId_quiet F.plain_max_loop _, maxTurns W bt cmp B nB _ 0 _ v _ rfl (by omega) (W.frame _ _ _ hG1 fun b nb o e => (Heap.get?_update_other _ _ (fun z : B = b => nB (by rw [z]; exact nb))).trans e) hv (Heap.get?_update_self _ hB1 rfl) fun v2 h2 tk2 hv2 k2 => ?_⟩
    exact hR v2 h2 tk2 (by rw [if_neg hn]; exact hv2) fun b o n1 n2 e => k2 b o n1 n2 ((Heap.get?_update_other _ _ (Ne.symm n2)).trans (k1 b o n1 e))
theorem argsD (a d : Value) : argsOk "max" ⟨[a], [("default", d)]⟩ := by unfold argsOk; kernel_rfl
theorem call_maxD {prog : Program} {w : World} {A : Around} {E : Value → Shared → Prop} {s : Shared} {l : Addr} {xs : Array (Int × Tok)} {d : Value} {Q : Value → Shared → Prop} (hh : A.handled = none) (hl : s.heap.IsList l (intItems xs))
    (h : ∀ v h' tk, (if xs.size = 0 then v = d else (intItems xs)[argBest (fun i j => decide (numAt xs i > numAt xs j)) (xs.size - 1)]? = some v) → (∀ b o, s.heap.get? b = some o → h'.get? b = some o) → Q v { s with heap := h', toks := tk }) :
    wpAny (model prog w) A (call (.builtin "max") [.ref l] [("default", d)]) Q E s := by
  have nm : (toString "max" ++ toString ".loop" : String) = "max.loop" := by decide
  refine wpAny_call (codeAny_call_builtin F.plain_max F.entry_max ?_)
  simp only [checkBuiltinCall, F.kind_max]
  have main : wpAny (model prog w) A.in1 (Builtin.«max» ⟨[.ref l], [("default", d)]⟩) (fun fin s' => match fin with
      | .done f => (match (Except.ok f : Result) with | .ok (.ret v) => Q v s' | .ok _ => False | .error e => E e s')
      | .again c' => c'.quiet = true ∧ codeAny (model prog w) A c' (fun r s' => match r with | .ok (.ret v) => Q v s' | .ok _ => False | .error e => E e s') s') E s := by
    show wpAny _ A.in1 (Builtin.Builtins.bindParams "max" ["key", "default"] 0 ⟨[], [("default", d)]⟩ >>= _) _ _ s
    refine wpAny_bind (wpAny_of_eq (show Builtin.Builtins.bindParams "max" ["key", "default"] 0 ⟨[], [("default", d)]⟩ = pure [none, some d] by kernel_rfl) ?_)
    refine wpAny_bind (wpAny_pure ?_)
    refine wpAny_bind (iter_intList hl fun s₂ e st hfp hlI => ?_)
    subst e
    refine wpAny_bind (wpAny_newObj_type ?_)
    rw [nm]
    have nf : (s.heap.push { cls := .type "list_iterator", data := .fields #[.ref l, .int 0 0] }).objs.size ∉ [s.heap.objs.size, l] := fun z => Nat.lt_irrefl _ (hfp _ z)
    have W := Walks.list (prog := prog) (w := w) (A := A.in1) hh s.heap.objs.size l hlI (intItems xs)
    refine wpAny_pure ⟨plainId_quiet F.plain_max_loop _, Mx.maxFirst W (fun i j => decide (numAt xs i > numAt xs j)) (CmpOf.ints_gt (numAt xs) (fun _ _ => intItems_at)) _ nf d (W.frame _ _ _ st fun b _ o e => Heap.get?_push_of_some _ e) (Heap.get?_push_size _ rfl) fun v h' tk hP hk => ?_⟩
    have ez : (intItems xs).size = xs.size := by simp [intItems]
    rw [ez] at hP
    refine h v h' tk hP fun b o e => hk b o (fun z => ?_) (Nat.ne_of_lt (Nat.lt_trans (Heap.lt_size e) (by rw [Heap.size_push]; exact Nat.lt_succ_self _))) (Heap.get?_push_of_some _ (Heap.get?_push_of_some _ e))
    have z' : b = s.heap.objs.size := by simpa using z
    exact absurd (Heap.lt_size e) (by rw [z']; exact Nat.lt_irrefl _)
  cases hsig : Manifest.signature? "max" with
  | none => exact wpAny_pure main
  | some sig =>
    have ha := argsD (.ref l) d
    simp only [argsOk, hsig] at ha
    have h2 : Bind.checkArgs "max" sig ⟨[.ref l], [("default", d)]⟩ = pure () := ha
    show wpAny _ A.in1 (Bind.checkArgs "max" sig ⟨[.ref l], [("default", d)]⟩) _ _ s
    rw [h2]; exact wpAny_pure main
end
end Mx
/-- the greatest of a list of whole numbers, d if it is empty -/
def rMaxD (K : PySem.W.Frag) : List V → List V → Hp → VK → Prop := fun vs zs H Q => ∃ (a : Addr) (ns : List Int) (d : V), vs = [V.ref a] ∧ zs = [d] ∧ SqL K H a (ns.map V.int) ∧ (ns = [] → Q d H) ∧ ∀ m, m ∈ ns → (∀ y, y ∈ ns → y ≤ m) → Q (.int m) H
theorem cr_maxD {X : Cx} (hc : X.calm = true) : CallRK X (.builtin "max") [Str.ofString "default"] (rMaxD X.K) := by
  intro pins s σ H vs zs us ws Q I r rz h
  obtain ⟨a, ns, d, rfl, rfl, hs, q0, q⟩ := h
  obtain ⟨its, rv, hl, _⟩ := I.list hs
  rw [Vals.ref1 r]
  obtain ⟨dv, rfl, rd⟩ := vals1 rz
  obtain ⟨xs, e⟩ := rv.ints.allInts.items
  have hn : numsOf (intItems xs).toList = ns := by rw [← e]; exact rv.ints.numsOf
  rw [nums_intItems] at hn
  have hl' := hl.isList
  rw [e] at hl'
  refine Mx.call_maxD (I.ok.hd hc) hl' fun v h' tk hP hk => ?_
  have hlen : ns.length = xs.size := by rw [← hn, List.length_map, Array.length_toList]
  by_cases hz : xs.size = 0
  · rw [if_pos hz] at hP
    subst hP
    have e0 : ns = [] := List.length_eq_zero_iff.mp (by omega)
    exact ⟨d, H, I.kept hk, rd, q0 e0⟩
  · rw [if_neg hz] at hP
    obtain ⟨t, rfl⟩ := intItems_at hP
    obtain ⟨h1, h2⟩ := argBest_gt (numAt xs) (xs.size - 1)
    refine ⟨.int _, H, I.kept hk, ⟨t, rfl⟩, q _ ?_ fun y hy => ?_⟩
    · rw [numAt_eq, hn]; exact PySem.getD_mem (by omega)
    · rw [← hn] at hy
      obtain ⟨j, hj, rfl⟩ := mem_getD hy
      rw [List.length_map, Array.length_toList] at hj
      rw [← numAt_eq]; exact h2 j (by omega)
end M

namespace M
open PySem PySem.Spec L2
/-- a key as a datum -/
def kD : Key → D
  | .inl i => .int i
  | .inr s => .str s
theorem rep_kD {K : PySem.W.Frag} {F : Hp} {α : List Addr} (k : Key) : Rep K F α (kV k) (kD k) := by
  cases k with
  | inl i => exact .int i
  | inr s => exact .str s
theorem reps_kD {K : PySem.W.Frag} {F : Hp} {α : List Addr} : ∀ ks : List Key, Reps K F α (ks.map kV) (ks.map kD)
  | [] => .nil
  | k :: r => .cons (rep_kD k) (reps_kD r)
/-- tuples that stand in the heap are learnt, all of them -/
theorem learn_all {K : PySem.W.Frag} : ∀ (bs : List Addr) (ks : List (List Key)) (w : Ws), Ok K w → Paired (fun (k : List Key) (b : Addr) => w.H b = some (.tup (k.map kV))) ks bs →
    ∃ w1, w1.st = w.st ∧ w1.H = w.H ∧ Ok K w1 ∧ Step w w1 ∧ Reps K w1.F w1.al (bs.map V.ref) (ks.map fun k => .tup (k.map kD))
  | _, _, w, o, .nil => ⟨w, rfl, rfl, o, Step.refl w, .nil⟩
  | _, _, w, o, .cons (b := b) (l₁ := ks) (l₂ := bs) h t => by
    have o1 := ok_learn o h
    have s1 := step_learn o h
    obtain ⟨w1, e1, e2, o2, s2, r⟩ := learn_all _ _ (w.learn b _) o1 t
    refine ⟨w1, e1, e2, o2, s1.trans s2, .cons ?_ r⟩
    exact .tup (s2.le.tup _ _ (show upd w.F b _ b = _ from upd_same)) (reps_kD _)
def keysD (st : Sto) (x : D) : Option (List D) := match dkOf st x with
  | some ds => some (ds.map fun p => kD p.1)
  | none => match dtOf st x with
    | some ds => some (ds.map fun p => .tup (p.1.map kD))
    | none => none
section
variable {X : Cx} {E : XK} {K : PySem.W.Frag} {a b c e o i : Expr} {es rest : List Expr} {fa fb fc fi : FE} {fs : FA} {ta tb tc : TE} {pos apos cpos p : Pos}
def mKeys (c : Bool) (f : FE) : FE := fun sl st => bnd (f sl st) fun x st => match keysD st x with
  | some ds => mkL c ds st
  | none => none
theorem me_listKeys (c : Bool) (hc : X.calm = true) (he : ME X E e fa) (hm : X.mg "list" = none) (hg : Gl X "list" := by rfl) (hbase : attributeBase e "keys" X.env (eval e X.env) = eval e X.env := by rfl) (hline : (apos.endLine == cpos.line) = true := by rfl)
    (hs : starEach [.Call (.Attribute e "keys" apos) [] [] cpos] X.env = (false, eval (.Call (.Attribute e "keys" apos) [] [] cpos) X.env) :: starEach [] X.env := by rfl) :
    ME X E (.Call (.Name "list" p) [.Call (.Attribute e "keys" apos) [] [] cpos] [] pos) (mKeys c fa) := by
  obtain ⟨t, p, q⟩ := he.ex
  refine ⟨_, pe_listKeys hc p hm hg hbase hline hs, fun sl σ w Q o s h => ?_⟩
  refine q sl σ w _ o s (post_bnd h fun x dx w1 o1 s1 rx hp => ?_)
  unfold keysD at hp
  cases h1 : dkOf w1.st dx with
  | some ds =>
    simp only [h1] at hp
    obtain ⟨d, kvs, rfl, hr, ek, rs⟩ := dkOf_rep o1 rx h1
    refine .inl ⟨d, kvs, rfl, hr, fun p np => post_mkL o1 hp np ?_⟩
    have e1 : (kvs.map fun kv => kV kv.1) = (ds.map (·.1)).map kV := by rw [← ek, List.map_map]; rfl
    have e2 : (ds.map fun p => kD p.1) = (ds.map (·.1)).map kD := by rw [List.map_map]; rfl
    rw [e1, e2]
    exact reps_kD _
  | none =>
    simp only [h1] at hp
    cases h2 : dtOf w1.st dx with
    | none => simp only [h2] at hp; exact hp.elim
    | some ds =>
      simp only [h2] at hp
      obtain ⟨d, kvs, rfl, hr, ek, rs⟩ := dtOf_rep o1 rx h2
      refine .inr ⟨d, kvs, rfl, hr, fun p bs np hk => ?_⟩
      have hk2 : Paired (fun (k : List Key) (b : Addr) => w1.H b = some (.tup (k.map kV))) (ds.map (·.1)) bs := by
        rw [← ek]
        clear hp ek rs hr h1 h2
        induction hk with
        | nil => exact .nil
        | cons h _ ih => exact .cons h ih
      obtain ⟨w2, e1, e2, o2, s2, r⟩ := learn_all _ _ w1 o1 hk2
      have e3 : (ds.map fun p => D.tup (p.1.map kD)) = (ds.map (·.1)).map fun k => .tup (k.map kD) := by rw [List.map_map]; rfl
      rw [← e2]
      refine post_mkL (c := c) (E := E) o2 (Post.step s2 ?_) (by rw [e2]; exact np) r
      rw [e1, ← e3]; exact hp
/-! ### plain data for the library's own orders -/
mutual
def py : D → Option PyData
  | .non => some .none
  | .bl b => some (.bool b)
  | .int i => some (.int i)
  | .str s => some (.str s)
  | .tup ds => (pys ds).map .tuple
  | .lst ds => (pys ds).map .list
  | .dct _ => none
  | .dcT _ => none
  | .ptr _ => none
  | .scr _ => none
  | .gtp _ => none
  | .fnc _ => none
def pys : List D → Option (List PyData)
  | [] => some []
  | d :: r => match py d, pys r with
    | some x, some xs => some (x :: xs)
    | _, _ => none
end
mutual
theorem py_rep {w : Ws} (o : Ok K w) : ∀ {v : V} {d : D} {x : PyData}, Rep K w.F w.al v d → py d = some x → Dp K w.H v x
  | _, _, _, .non, h => by rw [py] at h; cases h; exact .non
  | _, _, _, .bl b, h => by rw [py] at h; cases h; exact .bl b
  | _, _, _, .int i, h => by rw [py] at h; cases h; exact .int i
  | _, _, _, .str s, h => by rw [py] at h; cases h; exact .str s
  | _, _, _, .tup (ds := ds) f r, h => by
    rw [py] at h
    cases q : pys ds with
    | none => rw [q] at h; cases h
    | some xs => rw [q] at h; cases h; exact .tup (SqT.of (o.sub _ _ f)) (pys_rep o r q)
  | _, _, _, .lst (ds := ds) f r, h => by
    rw [py] at h
    cases q : pys ds with
    | none => rw [q] at h; cases h
    | some xs => rw [q] at h; cases h; exact .lst (SqL.of (o.sub _ _ f)) (pys_rep o r q)
  | _, _, _, .dct _ _ _, h => by rw [py] at h; cases h
  | _, _, _, .dcT _ _ _, h => by rw [py] at h; cases h
  | _, _, _, .ptr _, h => by rw [py] at h; cases h
  | _, _, _, .scr _, h => by rw [py] at h; cases h
  | _, _, _, .gtp _ _, h => by rw [py] at h; cases h
  | _, _, _, .fnc _, h => by rw [py] at h; cases h
theorem pys_rep {w : Ws} (o : Ok K w) : ∀ {vs : List V} {ds : List D} {xs : List PyData}, Reps K w.F w.al vs ds → pys ds = some xs → DpAll K w.H vs xs
  | _, _, _, .nil, h => by rw [pys] at h; cases h; exact .nil
  | _, _, _, .cons (d := d) (ds := ds) r rs, h => by
    rw [pys] at h
    cases q : py d with
    | none => simp only [q] at h; cases h
    | some x =>
      cases q2 : pys ds with
      | none => simp only [q, q2] at h; cases h
      | some xs => simp only [q, q2] at h; cases h; exact .cons (py_rep o r q) (pys_rep o rs q2)
end
/-- .. also of a list that is a cell, or the script -/
def pyT (st : Sto) (d : D) : Option PyData := match d with
  | .ptr i => match cellL st i with
    | some ds => (pys ds).map .list
    | none => none
  | .scr ns => some (.list (ns.map .int))
  | d => py d
theorem pyT_rep {w : Ws} (o : Ok K w) {v : V} {d : D} {x : PyData} (r : Rep K w.F w.al v d) (h : pyT w.st d = some x) : Dp K w.H v x := by
  cases d with
  | ptr i =>
    have h' : (match cellL w.st i with
      | some ds => (pys ds).map PyData.list
      | none => none) = some x := h
    cases q : cellL w.st i with
    | none => rw [q] at h'; cases h'
    | some ds =>
      simp only [q] at h'
      cases q2 : pys ds with
      | none => rw [q2] at h'; cases h'
      | some xs =>
        rw [q2] at h'; cases h'
        obtain ⟨a, vs, rfl, _, _, hx, rs⟩ := cell_lst o r q
        exact .lst (SqL.of hx) (pys_rep o rs q2)
  | scr ns =>
    have h' : some (PyData.list (ns.map .int)) = some x := h
    cases h'
    obtain ⟨a, rfl, s⟩ := r.scr_inv
    refine .lst (sub_sqL o s) ?_
    have all : ∀ ns : List Int, DpAll K w.H (ns.map V.int) (ns.map PyData.int) := fun ns => by
      induction ns with
      | nil => exact .nil
      | cons n r ih => exact .cons (.int n) ih
    exact all ns
  | _ => exact py_rep o r h
def gEqD (neg : Bool) : Sto → D → D → MM D := fun st x y => match pyT st x, pyT st y with
  | some a, some b => if SeqAt.shaped a = true ∧ SeqAt.shaped b = true then ret (.bl (if neg then !PyData.eqv a b else PyData.eqv a b)) st else none
  | _, _ => none
theorem rf_eqD : Rf2 K E (rEqD K) (gEqD false) := fun x y dx dy w Q o rx ry hp => by
  unfold gEqD at hp
  cases h1 : pyT w.st dx with
  | none => simp only [h1] at hp; exact hp.elim
  | some u =>
    cases h2 : pyT w.st dy with
    | none => simp only [h1, h2] at hp; exact hp.elim
    | some v =>
      simp only [h1, h2] at hp
      obtain ⟨⟨p1, p2⟩, hp⟩ := post_ite hp
      exact ⟨u, v, pyT_rep o rx h1, pyT_rep o ry h2, p1, p2, post_ret o (.bl _) hp⟩
theorem rf_neD : Rf2 K E (rNeD K) (gEqD true) := fun x y dx dy w Q o rx ry hp => by
  unfold gEqD at hp
  cases h1 : pyT w.st dx with
  | none => simp only [h1] at hp; exact hp.elim
  | some u =>
    cases h2 : pyT w.st dy with
    | none => simp only [h1, h2] at hp; exact hp.elim
    | some v =>
      simp only [h1, h2] at hp
      obtain ⟨⟨p1, p2⟩, hp⟩ := post_ite hp
      exact ⟨u, v, pyT_rep o rx h1, pyT_rep o ry h2, p1, p2, post_ret o (.bl _) hp⟩
/-! ### isinstance(x, T), T a built-in type -/
def tyOf (st : Sto) : D → Option String
  | .non => some "NoneType"
  | .bl _ => some "bool"
  | .int _ => some "int"
  | .str _ => some "str"
  | .tup _ => some "tuple"
  | .lst _ => some "list"
  | .scr _ => none
  | .gtp _ => none
  | .fnc _ => none
  | .dct _ => none
  | .dcT _ => none
  | .ptr i => match cellL st i with
    | some _ => some "list"
    | none => none
theorem tyOf_rep {w : Ws} (o : Ok K w) {v : V} {d : D} {n : String} (r : Rep K w.F w.al v d) (h : tyOf w.st d = some n) : TyX K w.H v (.type n) := by
  cases d with
  | non => cases h; cases r; exact .base .non
  | bl b => cases h; cases r; exact .base (.bl b)
  | int b => cases h; cases r; exact .base (.int b)
  | str b => cases h; cases r; exact .base (.str b)
  | tup ds => cases h; obtain ⟨a, xs, rfl, f, _⟩ := r.tup_inv; exact .base (.tup (o.sub _ _ f))
  | lst ds => cases h; obtain ⟨a, xs, rfl, f, _⟩ := r.lst_inv; exact .base (.lst (o.sub _ _ f))
  | ptr i =>
    have h' : (match cellL w.st i with
      | some _ => some "list"
      | none => none) = some n := h
    cases q : cellL w.st i with
    | none => rw [q] at h'; cases h'
    | some ds =>
      rw [q] at h'; cases h'
      obtain ⟨a, vs, rfl, _, _, hx, _⟩ := cell_lst o r q
      exact .base (.lst hx)
  | _ => cases h
def gIsi (T : String) : Sto → D → MM D := fun st x => match tyOf st x with
  | some n => match kitB n T with
    | some b => ret (.bl b) st
    | none => none
  | none => none
theorem me_isi {T : String} {x : Str} {p2 : Pos} (hm : X.mg "isinstance" = none) (hmT : X.mg x = none) (ha : ME X E e fa) (hvT : bootBuiltins x = some (.type T) := by decide +kernel) (hg : Gl X "isinstance" := by rfl) (hgT : Gl X x := by rfl) (hnT : x ≠ "__name__" := by decide) (hdT : (x == ("__debug__" : Str)) = false := by decide)
    (he : starEach [e, .Name x p2] X.env = (false, eval e X.env) :: starEach [.Name x p2] X.env := by rfl) (he2 : starEach [.Name x p2] X.env = (false, eval (.Name x p2) X.env) :: starEach [] X.env := by rfl) (hpl : (backTo pos (starEach [.Name x p2] X.env)).any (·.1) = false := by rfl) :
    ME X E (.Call (.Name "isinstance" p) [e, .Name x p2] [] pos) (mUn (gIsi T) fa) := by
  obtain ⟨t, p, q⟩ := ha.ex
  refine ⟨_, pe_callB call_isi hg hm (by decide +kernel) (pa_cons p (pa_cons (pe_bltn hgT hmT hvT (v := .ty T) rfl hnT hdT) pa_nil he2) he) (by decide) (by decide) he hpl, fun sl σ w Q o s h => ?_⟩
  refine q sl σ w _ o s (post_bnd h fun v dv w1 o1 s1 r hp => ?_)
  show rIsi X.K [v, .ty T] w1.H Q
  unfold gIsi at hp
  cases h1 : tyOf w1.st dv with
  | none => simp only [h1] at hp; exact hp.elim
  | some n =>
    cases h2 : kitB n T with
    | none => simp only [h1, h2] at hp; exact hp.elim
    | some b =>
      simp only [h1, h2] at hp
      exact ⟨v, .ty T, .type n, .type T, b, rfl, .ty T, tyOf_rep o1 r h1, kit_ty h2, post_ret o1 (.bl b) hp⟩
/-! ### the greatest of a list of whole numbers -/
def intsOf : List D → Option (List Int)
  | [] => some []
  | d :: r => match d, intsOf r with
    | .int i, some is => some (i :: is)
    | _, _ => none
theorem intsOf_rep {F : Hp} {α : List Addr} : ∀ {vs : List V} {ds : List D} {is : List Int}, Reps K F α vs ds → intsOf ds = some is → vs = is.map V.int
  | _, _, _, .nil, h => by cases h; rfl
  | _, _, is, .cons (v := v) (d := d) (vs := vs) (ds := ds) r rs, h => by
    cases d with
    | int i =>
      have h' : (match intsOf ds with
        | some is => some (i :: is)
        | none => none) = some is := by
        have : intsOf (.int i :: ds) = (match D.int i, intsOf ds with
          | .int i, some is => some (i :: is)
          | _, _ => none) := rfl
        rw [this] at h
        cases q : intsOf ds with
        | none => rw [q] at h; cases h
        | some is2 => rw [q] at h; exact h
      cases q : intsOf ds with
      | none => rw [q] at h'; cases h'
      | some is2 =>
        rw [q] at h'; cases h'
        rw [r.int_inv, intsOf_rep rs q]; rfl
    | _ => cases h
theorem intsOf_map : ∀ is : List Int, intsOf (is.map .int) = some is
  | [] => rfl
  | i :: r => by
    show (match D.int i, intsOf (r.map .int) with
      | .int i, some is => some (i :: is)
      | _, _ => none) = _
    rw [intsOf_map r]
def maxOf : List Int → Int
  | [] => 0
  | [a] => a
  | a :: b :: r => max a (maxOf (b :: r))
theorem maxOf_mem : ∀ {is : List Int}, is ≠ [] → maxOf is ∈ is ∧ ∀ y ∈ is, y ≤ maxOf is
  | [], h => absurd rfl h
  | [a], _ => by simp [maxOf]
  | a :: b :: r, _ => by
    obtain ⟨h1, h2⟩ := maxOf_mem (is := b :: r) (by simp)
    show max a (maxOf (b :: r)) ∈ _ ∧ ∀ y ∈ _, y ≤ max a (maxOf (b :: r))
    refine ⟨?_, fun y hy => ?_⟩
    · by_cases z : a ≤ maxOf (b :: r)
      · rw [Int.max_eq_right z]; exact List.mem_cons_of_mem _ h1
      · rw [Int.max_eq_left (by omega)]; exact List.mem_cons_self
    · rcases List.mem_cons.mp hy with rfl | hy
      · exact Int.le_max_left _ _
      · exact Int.le_trans (h2 y hy) (Int.le_max_right _ _)
theorem maxOf_is {is : List Int} {m : Int} (h1 : m ∈ is) (h2 : ∀ y ∈ is, y ≤ m) : m = maxOf is := by
  have hn : is ≠ [] := fun z => by rw [z] at h1; simp at h1
  obtain ⟨g1, g2⟩ := maxOf_mem hn
  exact Int.le_antisymm (g2 m h1) (h2 _ g1)
def cMaxL (st : Sto) (ds : List D) : MM D := match ds with
  | [x] => match (lstOf st x).bind intsOf with
    | some is => if is = [] then none else ret (.int (maxOf is)) st
    | none => none
  | _ => none
theorem rf_maxL : RfC K E (rMax K) cMaxL := fun xs ds w Q o r hp => by
  unfold cMaxL at hp
  split at hp
  · rename_i d
    obtain ⟨x, rfl, rx⟩ := r.one_inv
    cases h1 : lstOf w.st d with
    | none => simp only [h1, Option.bind_none] at hp; exact hp.elim
    | some es =>
      simp only [h1, Option.bind_some] at hp
      cases h2 : intsOf es with
      | none => simp only [h2] at hp; exact hp.elim
      | some is =>
        simp only [h2] at hp
        obtain ⟨a, vs, rfl, hs, rs⟩ := lstOf_rep o rx h1
        by_cases z : is = []
        · rw [if_pos z] at hp; exact hp.elim
        · rw [if_neg z] at hp
          rw [intsOf_rep rs h2] at hs
          refine ⟨a, is, rfl, hs, List.length_pos_iff.mpr z, fun m m1 m2 => ?_⟩
          rw [maxOf_is m1 m2]; exact post_ret o (.int _) hp
  · exact hp.elim
/-- max(xs, default=d) -/
def mMaxD (fa fb : FE) : FE := fun sl st => bnd (fa sl st) fun x st => bnd (fb sl st) fun d st => match (lstOf st x).bind intsOf with
  | some is => if is = [] then ret d st else ret (.int (maxOf is)) st
  | none => none
theorem me_maxD {kp : Pos} (hc : X.calm = true) (hm : X.mg "max" = none) (ha : ME X E a fa) (hb : ME X E b fb) (hg : Gl X "max" := by rfl)
    (h1 : starEach [a] X.env = (false, eval a X.env) :: starEach [] X.env := by rfl)
    (he : backTo pos (starEach [a] X.env) = (false, eval a X.env) :: backTo pos (starEach [] X.env) := by rfl) (hpl : (backTo pos (starEach [a] X.env)).any (·.1) = false := by rfl)
    (hall : (backToKw pos (keywordEach [⟨some "default", b, kp⟩] X.env)).all (·.1.isSome) = true := by rfl) (hnone : (backToKw pos (keywordEach [⟨some "default", b, kp⟩] X.env)).any (·.1.isNone) = false := by rfl) (hks : (backToKw pos (keywordEach [⟨some "default", b, kp⟩] X.env)).filterMap (·.1) = [Str.ofString "default"] := by rfl) :
    ME X E (.Call (.Name "max" p) [a] [⟨some "default", b, kp⟩] pos) (mMaxD fa fb) := by
  obtain ⟨t, p, q⟩ := ha.ex
  obtain ⟨t2, p2, q2⟩ := hb.ex
  refine ⟨_, pe_callBK (cr_maxD hc) hg hm (by decide +kernel) (pa_cons p pa_nil h1) (pk_cons p2 pk_nil) (by decide) (by decide) he hpl hall hnone hks, fun sl σ w Q o s h => ?_⟩
  refine q sl σ w _ o s (post_bnd h fun x dx w1 o1 s1 rx hp => ?_)
  refine q2 sl σ w1 _ o1 (s.step s1) (post_bnd hp fun y dy w2 o2 s2 ry hp => ?_)
  show rMaxD X.K [x] [y] w2.H Q
  have rx := rx.mono s2.le s2.pre
  cases h1 : lstOf w2.st dx with
  | none => simp only [h1, Option.bind_none] at hp; exact hp.elim
  | some es =>
    simp only [h1, Option.bind_some] at hp
    cases h2 : intsOf es with
    | none => simp only [h2] at hp; exact hp.elim
    | some is =>
      simp only [h2] at hp
      obtain ⟨a, vs, rfl, hs, rs⟩ := lstOf_rep o2 rx h1
      rw [intsOf_rep rs h2] at hs
      refine ⟨a, is, y, rfl, rfl, hs, fun z => ?_, fun m m1 m2 => ?_⟩
      · rw [if_pos z] at hp; exact post_ret o2 ry hp
      · have z : is ≠ [] := fun z => by rw [z] at m1; simp at m1
        rw [if_neg z] at hp
        rw [maxOf_is m1 m2]; exact post_ret o2 (.int _) hp
/-! ### y = [e for x in xs], a name -/
section
variable {E' : XK} {elt tg iter : Expr} {scope : Scope} {own : List (Str × Nat)} {gt : FG} {ft : FT} {fe : FE} {g : TG} {fI : FA} {spos py : Pos} {y : Str} {k : Nat}
theorem ms_setLc (b : Bool) (hc : X.calm = true) (hN : X.N.Nodup) (hi : MI X E tg iter fI) (ok : BlkOk X.N X.env.scope scope own)
    (hg : ∀ (s : Shared) (H : Hp) (C : Addr) (cl : List (Str × Addr)) (fp : List Addr), PG (X.blk s H scope (compEnvC scope cl C X.env) fp) tg g) (hgr : RfGW X.K E' (own.map (·.2)) g gt)
    (he : ∀ (s : Shared) (H : Hp) (C : Addr) (cl : List (Str × Addr)) (fp : List Addr), ME (X.blk s H scope (compEnvC scope cl C X.env) fp) E' elt fe) (hy : X.N[k]? = some y := by rfl) (hyl : X.env.scope.names.lookup y = some .local := by rfl)
    (hsw : swapsWith (.ListComp elt [⟨tg, iter, [], 0⟩] scope pos) (some (.Name y py)) spos.line X.env = pure true := by exact sw_true rfl rfl rfl (by decide +kernel)) (hs : ∀ x, foldedSetIterable iter X.env x = pure x := by intro _; rfl) :
    MS X E (.Assign [.Name y py] (.ListComp elt [⟨tg, iter, [], 0⟩] scope pos) spos) (sAsg (mLc b fI gt tYesD fe (own.map (·.2))) (gNm k)) := by
  obtain ⟨wi, p, q⟩ := hi.ex
  refine ⟨_, ps_setLc hc hN hy hyl hsw p ok hg (fun _ _ _ _ _ => pts_nil) (fun s H C cl fp => (show PE (X.blk s H scope (compEnvC scope cl C X.env) fp) elt (tE X.K E' fe) from (he s H C cl fp).can)) hs, ref_asg ?_ fun v d sl σ w Q o r s h => h (σ.set k (some v)) w rfl o (Step.refl w) (s.set r)⟩
  exact ref_lc (E' := E') b q hgr (fun sl σ w Q o s h => post_ret o rfl h) (fun sl σ w Q o s h => ⟨sl, w, rfl, o, s, h⟩) fun σ => wipe_wipe σ _
theorem ms_setLcIf (b : Bool) (hc : X.calm = true) (hN : X.N.Nodup) (hi : MI X E tg iter fI) (ok : BlkOk X.N X.env.scope scope own)
    (hg : ∀ (s : Shared) (H : Hp) (C : Addr) (cl : List (Str × Addr)) (fp : List Addr), PG (X.blk s H scope (compEnvC scope cl C X.env) fp) tg g) (hgr : RfGW X.K E' (own.map (·.2)) g gt)
    (ht : ∀ (s : Shared) (H : Hp) (C : Addr) (cl : List (Str × Addr)) (fp : List Addr), MT (X.blk s H scope (compEnvC scope cl C X.env) fp) E' c ft)
    (he : ∀ (s : Shared) (H : Hp) (C : Addr) (cl : List (Str × Addr)) (fp : List Addr), ME (X.blk s H scope (compEnvC scope cl C X.env) fp) E' elt fe) (hy : X.N[k]? = some y := by rfl) (hyl : X.env.scope.names.lookup y = some .local := by rfl)
    (hsw : swapsWith (.ListComp elt [⟨tg, iter, [c], 0⟩] scope pos) (some (.Name y py)) spos.line X.env = pure true := by exact sw_true rfl rfl rfl (by decide +kernel)) (hs : ∀ x, foldedSetIterable iter X.env x = pure x := by intro _; rfl) :
    MS X E (.Assign [.Name y py] (.ListComp elt [⟨tg, iter, [c], 0⟩] scope pos) spos) (sAsg (mLc b fI gt ft fe (own.map (·.2))) (gNm k)) := by
  obtain ⟨wi, p, q⟩ := hi.ex
  refine ⟨_, ps_setLc hc hN hy hyl hsw p ok hg (fun s H C cl fp => pts_one (show PT (X.blk s H scope (compEnvC scope cl C X.env) fp) c (tT X.K E' ft) from (ht s H C cl fp).can)) (fun s H C cl fp => (show PE (X.blk s H scope (compEnvC scope cl C X.env) fp) elt (tE X.K E' fe) from (he s H C cl fp).can)) hs, ref_asg ?_ fun v d sl σ w Q o r s h => h (σ.set k (some v)) w rfl o (Step.refl w) (s.set r)⟩
  exact ref_lc (E' := E') b q hgr (fun sl σ w Q o s h => ⟨sl, w, rfl, o, s, h⟩) (fun sl σ w Q o s h => ⟨sl, w, rfl, o, s, h⟩) fun σ => wipe_wipe σ _
end
end
end M

namespace M
open PySem PySem.Spec L2
/-- data to be sorted: bs with their values, enc their plain data -/
def rSortD (K : PySem.W.Frag) : List V → Hp → VK → Prop := fun vs H Q => ∃ (a : Addr) (β : Type) (bs : List (V × β)) (enc : β → PyData), vs = [V.ref a] ∧ SqL K H a (bs.map (·.1)) ∧ DpAll K H (bs.map (·.1)) (bs.map fun b => enc b.2) ∧
  PySem.W.AllAlike (bs.map fun b => enc b.2) ∧ PySem.W.Sortable (bs.map fun b => enc b.2) ∧ (∀ b ∈ bs, (enc b.2).depth ≤ 60) ∧ ∀ p, H p = none → Q (.ref p) (upd H p (.lst ((bs.mergeSort (PySem.W.dataLe false fun b => enc b.2)).map (·.1))))
theorem vals_each {us : List Value} {vs : List V} (r : Vals vs us) {β : Type} : ∀ (bs : List (V × β)), vs = bs.map (·.1) → PySem.W.EachIs (fun u (b : V × β) => RelV b.1 u) us bs := by
  induction r with
  | nil =>
    intro bs e
    cases bs with
    | nil => exact .nil
    | cons b r => cases e
  | cons h t ih =>
    intro bs e
    cases bs with
    | nil => cases e
    | cons b r => injection e with e1 e2; subst e1; exact .cons h (ih r e2)
theorem each_vals {β : Type} : ∀ {us : List Value} {bs : List (V × β)}, PySem.W.EachIs (fun u (b : V × β) => RelV b.1 u) us bs → Vals (bs.map (·.1)) us
  | _, _, .nil => .nil
  | _, _, .cons h t => .cons h (each_vals t)
theorem readsAll_bs {h : Heap} {β : Type} (enc : β → PyData) : ∀ {vs : List Value} {bs : List (V × β)} {as : List Addr}, ReadsAll h vs (bs.map fun b => enc b.2) as → PySem.W.EachIs (fun v (b : V × β) => ∃ as, Reads h v (enc b.2) as) vs bs := fun {vs bs as} r => PySem.W.readsAll_each (fun b : V × β => enc b.2) r
theorem cr_sortD {X : Cx} (hu : X.A.units + 64 < cLine) : CallR X (.builtin "sorted") (rSortD X.K) := by
  intro pins s σ H vs us Q I r h
  obtain ⟨a, β, bs, enc, rfl, hs, hd, hal, hk, hdep, q⟩ := h
  obtain ⟨its, rv, hl, hz⟩ := I.list hs
  rw [Vals.ref1 r]
  obtain ⟨as, hr⟩ := Dp.readsAll I _ _ _ hd rv
  have e1 := vals_each rv bs rfl
  refine PySem.W.sorted_data (enc := fun b : V × β => enc b.2) hl.isList e1 (readsAll_bs enc hr) hal hk (by rw [List.length_map] at hz; exact hz) (fun b hb => ?_) fun out ho eo => ?_
  · have := hdep b hb
    omega
  · have rv2 := each_vals eo
    have hlen : ((bs.mergeSort (PySem.W.dataLe false fun b => enc b.2)).map (·.1)).length ≤ sizeLine := by
      rw [List.length_map, List.length_mergeSort]
      rw [List.length_map] at hz
      exact hz
    obtain ⟨ep, he⟩ := PyProof.Rows.sortedAll_at s.heap its out.toArray
    exact ⟨.ref _, upd H (s.heap.objs.size + 1) (.lst _), I.laid (t' := s.toks) (fun _ _ => PyProof.Rows.sortedAll_old) (Nat.le_succ _) ⟨hlen, out, ep, rv2, he⟩, rfl, q _ (I.hok.fresh (Nat.le_succ _))⟩
/-! ### sorted, over data -/
def pyD (d : D) : PyData := (py d).getD .none
def leD (a b : D) : Bool := PySem.W.dataLe false pyD a b
def sortOk (ds : List D) : Bool := ds.all (fun d => (py d).isSome && decide ((pyD d).depth ≤ 60)) && ds.all (fun d => ds.all fun e => PySem.W.alike (pyD d) (pyD e)) &&
  (ds.all (fun d => match pyD d with
    | .tuple (_ :: _) => true
    | _ => false) || ds.all (fun d => match pyD d with
    | .tuple _ => false
    | .none => false
    | _ => true))
def cSorted (c : Bool) (st : Sto) (ds : List D) : MM D := match ds with
  | [x] => match lstOf st x with
    | some es => if sortOk es = true then mkL c (es.mergeSort leD) st else none
    | none => none
  | _ => none
theorem py_getD {ds : List D} (h : ∀ d ∈ ds, (py d).isSome = true) : pys ds = some (ds.map pyD) := by
  induction ds with
  | nil => rw [pys]; rfl
  | cons d r ih =>
    rw [pys, ih fun e he => h e (List.mem_cons_of_mem _ he)]
    obtain ⟨x, hx⟩ := Option.isSome_iff_exists.mp (h d List.mem_cons_self)
    rw [hx]
    show some (x :: r.map pyD) = some (pyD d :: r.map pyD)
    unfold pyD
    rw [hx]; rfl
theorem zip_fst : ∀ {vs : List V} {ds : List D}, vs.length = ds.length → (vs.zip ds).map (·.1) = vs ∧ (vs.zip ds).map (·.2) = ds
  | [], [], _ => ⟨rfl, rfl⟩
  | [], _ :: _, h => by cases h
  | _ :: _, [], h => by cases h
  | v :: vs, d :: ds, h => by
    obtain ⟨h1, h2⟩ := zip_fst (vs := vs) (ds := ds) (Nat.succ.inj h)
    exact ⟨congrArg _ h1, congrArg _ h2⟩
theorem reps_zip {K : PySem.W.Frag} {F : Hp} {α : List Addr} : ∀ {vs : List V} {ds : List D}, Reps K F α vs ds → ∀ p ∈ vs.zip ds, Rep K F α p.1 p.2
  | _, _, .nil, p, h => by simp at h
  | _, _, .cons r rs, p, h => by
    rcases List.mem_cons.mp h with rfl | h
    · exact r
    · exact reps_zip rs p h
theorem reps_of_all {K : PySem.W.Frag} {F : Hp} {α : List Addr} : ∀ {l : List (V × D)}, (∀ p ∈ l, Rep K F α p.1 p.2) → Reps K F α (l.map (·.1)) (l.map (·.2))
  | [], _ => .nil
  | p :: r, h => .cons (h p List.mem_cons_self) (reps_of_all fun q hq => h q (List.mem_cons_of_mem _ hq))
theorem rf_sorted {K : PySem.W.Frag} {E : XK} (c : Bool) : RfC K E (rSortD K) (cSorted c) := fun xs ds w Q o r hp => by
  unfold cSorted at hp
  split at hp
  · rename_i d
    obtain ⟨x, rfl, rx⟩ := r.one_inv
    cases h1 : lstOf w.st d with
    | none => simp only [h1] at hp; exact hp.elim
    | some es =>
      simp only [h1] at hp
      obtain ⟨hok, hp⟩ := post_ite hp
      obtain ⟨a, vs, rfl, hs, rs⟩ := lstOf_rep o rx h1
      obtain ⟨z1, z2⟩ := zip_fst rs.length
      unfold sortOk at hok
      simp only [Bool.and_eq_true, List.all_eq_true, decide_eq_true_eq] at hok
      obtain ⟨⟨a1, a2⟩, a3⟩ := hok
      have e2 : ((vs.zip es).map fun b => pyD b.2) = es.map pyD := by
        have := congrArg (List.map pyD) z2
        rw [List.map_map] at this
        exact this
      refine ⟨a, D, vs.zip es, pyD, rfl, by rw [z1]; exact hs, ?_, ?_, ?_, fun b hb => (a1 b.2 (List.of_mem_zip hb).2).2, fun p np => ?_⟩
      · rw [z1, e2]
        exact pys_rep o rs (py_getD fun d hd => (a1 d hd).1)
      · rw [e2]
        intro u hu v hv
        obtain ⟨d1, m1, rfl⟩ := List.mem_map.mp hu
        obtain ⟨d2, m2, rfl⟩ := List.mem_map.mp hv
        exact a2 d1 m1 d2 m2
      · rw [e2]
        rw [Bool.or_eq_true, List.all_eq_true, List.all_eq_true] at a3
        rcases a3 with a3 | a3
        · refine .inl fun u hu => ?_
          obtain ⟨d1, m1, rfl⟩ := List.mem_map.mp hu
          have := a3 d1 m1
          split at this
          · rename_i y l e; exact ⟨_, _, e⟩
          · cases this
        · refine .inr fun u hu => ?_
          obtain ⟨d1, m1, rfl⟩ := List.mem_map.mp hu
          have := a3 d1 m1
          split at this
          · cases this
          · cases this
          · rename_i g1 g2; exact ⟨fun e => g2 e, fun ys e => g1 ys e⟩
      · have hsort : ((vs.zip es).mergeSort (PySem.W.dataLe false fun b => pyD b.2)).map (·.2) = es.mergeSort leD := by
          have := List.map_mergeSort (r := PySem.W.dataLe false fun b : V × D => pyD b.2) (s := leD) (f := (·.2)) (l := vs.zip es) fun a _ b _ => rfl
          rw [this, z2]
        refine post_mkL o hp np ?_
        rw [← hsort]
        refine reps_of_all fun q hq => reps_zip rs q ?_
        exact (List.mergeSort_perm _ _).mem_iff.mp hq
  · exact hp.elim
end M

/-! A plain run ends well, with what is wanted of its end. -/
namespace M
open PySem L2
def Ens {τ : Type} (m : MM τ) (Q : τ → Sto → Prop) : Prop := ∃ x st, m = some (.ok x st) ∧ Q x st
section
variable {τ υ : Type} {Q : τ → Sto → Prop}
theorem ens_ret {x : τ} {st : Sto} (h : Q x st) : Ens (ret x st) Q := ⟨x, st, rfl, h⟩
theorem ens_bnd {m : MM υ} {k : υ → Sto → MM τ} (h : Ens m fun x st => Ens (k x st) Q) : Ens (bnd m k) Q := by
  obtain ⟨x, st, rfl, y, st2, e, q⟩ := h
  exact ⟨y, st2, e, q⟩
theorem ens_ite {C : Prop} [Decidable C] {m : MM τ} (c : C) (h : Ens m Q) : Ens (if C then m else none) Q := by rw [if_pos c]; exact h
theorem ens_if {C : Prop} [Decidable C] {m n : MM τ} (h1 : C → Ens m Q) (h2 : ¬ C → Ens n Q) : Ens (if C then m else n) Q := by
  by_cases c : C
  · rw [if_pos c]; exact h1 c
  · rw [if_neg c]; exact h2 c
theorem ens_cond {b : Bool} {m n : MM τ} (h1 : b = true → Ens m Q) (h2 : b = false → Ens n Q) : Ens (cond b m n) Q := by
  cases b with
  | true => exact h1 rfl
  | false => exact h2 rfl
theorem ens_lift {o : Option τ} {x : τ} {st : Sto} (e : o = some x) (h : Q x st) : Ens (lift o st) Q := by rw [e]; exact ⟨x, st, rfl, h⟩
theorem Ens.imp {m : MM τ} {Q' : τ → Sto → Prop} (h : Ens m Q) (k : ∀ x st, Q x st → Q' x st) : Ens m Q' := let ⟨x, st, e, q⟩ := h; ⟨x, st, e, k x st q⟩
theorem ens_noX {m : MM τ} (h : Ens m Q) : Ens (noX m) Q := by
  obtain ⟨x, st, rfl, q⟩ := h
  exact ⟨x, st, rfl, q⟩
theorem ens_eq {m n : MM τ} (e : m = n) (h : Ens n Q) : Ens m Q := by rw [e]; exact h
end
/-! statements: on, handed back -/
def EnsS (m : MM Fl) (N : Sl → Sto → Prop) (R : D → Sto → Prop) : Prop := Ens m fun f st => match f with
  | .nx sl => N sl st
  | .rt d => R d st
  | .bk _ => False
  | .ct _ => False
theorem ens_for {tg : FG} {body : FS} {N : Sl → Sto → Prop} {R : D → Sto → Prop} (I : Nat → Sl → Sto → Prop) : ∀ (ds : List D) (i : Nat) {sl : Sl} {st : Sto}, I i sl st →
    (∀ (j : Nat) d sl st, ds[j]? = some d → I (i + j) sl st → Ens (tg d sl st) fun sl st => EnsS (body sl st) (I (i + j + 1)) R) → (∀ sl st, I (i + ds.length) sl st → N sl st) → EnsS (forL tg body ds sl st) N R
  | [], i, sl, st, h0, hs, hd => ens_ret (hd sl st h0)
  | d :: ds, i, sl, st, h0, hs, hd => by
    refine ens_bnd ((hs 0 d sl st rfl h0).imp fun sl1 st1 h1 => ens_bnd (h1.imp fun f st2 h2 => ?_))
    have rest : ∀ sl2, I (i + 1) sl2 st2 → EnsS (forL tg body ds sl2 st2) N R := fun sl2 h => ens_for I ds (i + 1) h (fun j d' sl st e hI => by
      have e1 : i + 1 + j = i + (j + 1) := by omega
      rw [e1] at hI ⊢
      exact hs (j + 1) d' sl st e hI) (fun sl st hI => hd sl st (by
      have e1 : i + (d :: ds).length = i + 1 + ds.length := by rw [List.length_cons]; omega
      rw [e1]; exact hI))
    cases f with
    | nx sl2 => exact rest sl2 h2
    | ct sl2 => exact h2.elim
    | bk sl2 => exact h2.elim
    | rt d2 => exact ens_ret h2
theorem ens_for0 {tg : FG} {body : FS} {N : Sl → Sto → Prop} {R : D → Sto → Prop} (I : Nat → Sl → Sto → Prop) {ds : List D} {sl : Sl} {st : Sto} (h0 : I 0 sl st)
    (hs : ∀ (j : Nat) d sl st, ds[j]? = some d → I j sl st → Ens (tg d sl st) fun sl st => EnsS (body sl st) (I (j + 1)) R) (hd : ∀ sl st, I ds.length sl st → N sl st) : EnsS (forL tg body ds sl st) N R :=
  ens_for I ds 0 h0 (fun j d sl st e h => by
    rw [Nat.zero_add] at h ⊢
    exact hs j d sl st e h) (fun sl st h => hd sl st (by rw [Nat.zero_add] at h; exact h))
/-! calls -/
def iDs (xs : List Int) : List D := xs.map .int
theorem pfs_iDs : ∀ xs : List Int, pfs (iDs xs) = true
  | [] => by simp [iDs, pfs]
  | x :: r => by
    have := pfs_iDs r
    simp only [iDs, List.map_cons, pfs, pf, Bool.true_and] at this ⊢
    exact this
section
variable {Q : D → Sto → Prop} {n : Nat} {m : List D → Sto → MM D} {st : Sto}
theorem ens_B1 {r : List D} {c : Cell} (hl : r.length + 1 = n) (pr : pfs r = true) (pc : pfC c = true) (h : Ens (m (.ptr 0 :: r) [some c]) fun d cs => ∃ c' rest, cs = some c' :: rest ∧ pfC c' = true ∧ pf d = true ∧ Q d (some c' :: st)) : Ens (callB n m (.ptr 0 :: r) (some c :: st)) Q := by
  obtain ⟨d, cs, e, c', rest, rfl, p1, p2, q⟩ := h
  refine ⟨d, some c' :: st, ?_, q⟩
  unfold callB
  rw [if_pos (show (D.ptr 0 :: r).length = n from hl)]
  show (if pfs r = true ∧ pfC c = true then back1 0 (some c :: st) (m (.ptr 0 :: r) [some c]) else none) = _
  rw [if_pos ⟨pr, pc⟩, e]
  show (if pfC c' = true then outB d (some c' :: rest) 1 (some c' :: st) else none) = _
  rw [if_pos p1]
  unfold outB
  rw [if_pos p2]; rfl
def noPtr : List D → Bool
  | .ptr _ :: _ => false
  | _ => true
theorem callB_0 {ds : List D} (hl : ds.length = n) (hp : noPtr ds = true) (pr : pfs ds = true) : callB n m ds st = back0 st (m ds []) := by
  unfold callB
  rw [if_pos hl]
  cases ds with
  | nil => exact if_pos pr
  | cons d r =>
    cases d with
    | ptr i => cases hp
    | _ => exact if_pos pr
theorem ens_B0 {ds : List D} (hl : ds.length = n) (hp : noPtr ds = true) (pr : pfs ds = true) (h : Ens (m ds []) fun d cs => pf d = true ∧ Q d st) : Ens (callB n m ds st) Q := by
  obtain ⟨d, cs, e, p, q⟩ := h
  refine ⟨d, st, ?_, q⟩
  rw [callB_0 hl hp pr, e]
  show outB d cs 0 st = _
  unfold outB
  rw [if_pos p]; rfl
/-- a new cell handed back -/
theorem ens_B0c {ds : List D} (hl : ds.length = n) (hp : noPtr ds = true) (pr : pfs ds = true) (h : Ens (m ds []) fun d cs => ∃ j c, d = .ptr j ∧ cs[j]? = some (some c) ∧ pfC c = true ∧ Q (.ptr st.length) (st ++ [some c])) : Ens (callB n m ds st) Q := by
  obtain ⟨d, cs, e, j, c, rfl, e2, p, q⟩ := h
  refine ⟨_, _, ?_, q⟩
  rw [callB_0 hl hp pr, e]
  show outB (.ptr j) cs 0 st = _
  unfold outB
  rw [if_neg (by rw [pf]; exact Bool.false_ne_true)]
  show (if 0 ≤ j then _ else none) = _
  rw [if_pos (Nat.zero_le _)]
  simp only [e2]
  rw [if_pos p]; rfl
theorem ens_def {N k : Nat} {g : FS} {ds : List D} (sl : Sl) (e : ds.map some ++ List.replicate (N - k) none = sl) (h : EnsS (g sl st) (fun _ st => Q .non st) Q) : Ens (mDef N k g ds st) Q := by
  subst e
  refine ens_bnd (h.imp fun f st q => ?_)
  cases f with
  | nx _ => exact ens_ret q
  | rt d => exact ens_ret q
  | bk _ => exact q.elim
  | ct _ => exact q.elim
end
/-! statements -/
section
variable {N : Sl → Sto → Prop} {R : D → Sto → Prop} {sl : Sl} {st : Sto}
theorem ens_seq {g1 g2 : FS} (h : EnsS (g1 sl st) (fun sl st => EnsS (g2 sl st) N R) R) : EnsS (sSeq g1 g2 sl st) N R := by
  refine ens_bnd (h.imp fun f st q => ?_)
  cases f with
  | nx _ => exact q
  | rt d => exact ens_ret q
  | bk _ => exact q.elim
  | ct _ => exact q.elim
theorem ens_asg {f : FE} {i : Nat} (h : Ens (f sl st) fun d st => N (sl.set i (some d)) st) : EnsS (sAsg f (gNm i) sl st) N R := ens_bnd (h.imp fun _ _ q => ens_bnd (ens_ret (ens_ret q)))
theorem ens_drop {f : FE} (h : Ens (f sl st) fun _ st => N sl st) : EnsS (sDrop f sl st) N R := ens_bnd (h.imp fun _ _ q => ens_ret q)
theorem ens_retS {f : FE} (h : Ens (f sl st) fun d st => R d st) : EnsS (sRet f sl st) N R := ens_bnd (h.imp fun _ _ q => ens_ret q)
theorem ens_ifS {c : FT} {g1 g2 : FS} (h : Ens (c sl st) fun b st => (b = true → EnsS (g1 sl st) N R) ∧ (b = false → EnsS (g2 sl st) N R)) : EnsS (sIf c g1 g2 sl st) N R := ens_bnd (h.imp fun _ _ q => ens_cond q.1 q.2)
theorem ens_var {i : Nat} {d : D} {Q : D → Sto → Prop} (e : gv sl i = some d) (h : Q d st) : Ens (mVar i sl st) Q := ens_lift e h
theorem ens_C {d : D} {Q : D → Sto → Prop} (h : Q d st) : Ens (mC d sl st) Q := ens_ret h
theorem ens_next (h : N sl st) : EnsS (sNext sl st) N R := ens_ret h
end
/-! expressions -/
section
variable {Q : D → Sto → Prop} {P : List D → Sto → Prop} {B : Bool → Sto → Prop} {sl : Sl} {st : Sto} {f f1 f2 f3 : FE} {g h : FA} {c1 c2 : FT} {N : Sl → Sto → Prop} {R : D → Sto → Prop}
theorem ens_red {τ : Type} {Q : τ → Sto → Prop} {m : MM τ} {x : τ} {st : Sto} (e : m = ret x st) (h : Q x st) : Ens m Q := by rw [e]; exact ⟨x, st, rfl, h⟩
theorem ens_bin {p : Sto → D → D → MM D} (q : Ens (f1 sl st) fun x st => Ens (f2 sl st) fun y st => Ens (p st x y) Q) : Ens (mBin p f1 f2 sl st) Q := ens_bnd (q.imp fun _ _ q => ens_bnd q)
theorem ens_un {p : Sto → D → MM D} (q : Ens (f1 sl st) fun x st => Ens (p st x) Q) : Ens (mUn p f1 sl st) Q := ens_bnd q
theorem ens_CB {p : Sto → List D → MM D} (q : Ens (g sl st) fun ds st => Ens (p st ds) Q) : Ens (mCB p g sl st) Q := ens_bnd q
theorem ens_call {p : List D → Sto → MM D} (q : Ens (g sl st) fun ds st => Ens (p ds st) Q) : Ens (mCall p g sl st) Q := ens_bnd q
theorem ens_nil (q : P [] st) : Ens (mNil sl st) P := ens_ret q
theorem ens_cons (q : Ens (f sl st) fun x st => Ens (g sl st) fun xs st => P (x :: xs) st) : Ens (mCons f g sl st) P := ens_bnd (q.imp fun _ _ q => ens_bnd (q.imp fun _ _ q => ens_ret q))
theorem ens_tup (q : Ens (g sl st) fun ds st => ds.length ≤ 1000 ∧ Q (.tup ds) st) : Ens (mTup g sl st) Q := ens_bnd (q.imp fun _ _ q => ens_ite q.1 (ens_ret q.2))
theorem ens_lst (q : Ens (g sl st) fun ds st => ds.length ≤ 1000 ∧ Q (.lst ds) st) : Ens (mLst false g sl st) Q := ens_bnd (q.imp fun _ _ q => ens_ite q.1 (ens_ret q.2))
theorem ens_lstC (q : Ens (g sl st) fun ds st => ds.length ≤ 1000 ∧ Q (.ptr st.length) (st ++ [some (.lst ds)])) : Ens (mLst true g sl st) Q := ens_bnd (q.imp fun _ _ q => ens_ite q.1 (ens_ret q.2))
theorem ens_BM {T : String} {p : Sto → D → List D → MM D} (q : Ens (f sl st) fun x st => tyOk T st x = true ∧ Ens (g sl st) fun ds st => Ens (p st x ds) Q) : Ens (mBM T p f g sl st) Q := ens_bnd (q.imp fun _ _ q => ens_ite q.1 (ens_bnd q.2))
theorem ens_BM0 {T : String} {p : Sto → D → List D → MM D} (q : Ens (f sl st) fun x st => tyOk T st x = true ∧ Ens (p st x []) Q) : Ens (mBM0 T p f sl st) Q := ens_bnd (q.imp fun _ _ q => ens_ite q.1 q.2)
theorem ens_NP {Q : Option Int → Sto → Prop} (q : Q none st) : Ens (mNoPart sl st) Q := ens_ret q
theorem ens_PA {Q : Option Int → Sto → Prop} (q : Ens (f sl st) fun x st => ∃ i, x = .int i ∧ Q (some i) st) : Ens (mPart f sl st) Q := ens_bnd (q.imp fun _ _ ⟨_, e, q⟩ => by subst e; exact ens_ret q)
theorem ens_SL {c : Bool} {l r : FO} (q : Ens (f sl st) fun x st => Ens (l sl st) fun lo st => Ens (r sl st) fun hi st => Ens (gSl c st x lo hi) Q) : Ens (mSl c f l r sl st) Q := ens_bnd (q.imp fun _ _ q => ens_bnd (q.imp fun _ _ q => ens_bnd q))
theorem ens_DG (q : Ens (f1 sl st) fun x st => Ens (f2 sl st) fun y st => ∃ d, dGet st x y = some (some d) ∧ Q d st) : Ens (mDGet f1 f2 sl st) Q := ens_bnd (q.imp fun _ _ q => ens_bnd (q.imp fun _ _ ⟨_, e, q⟩ => by simp only [e]; exact ens_ret q))
theorem ens_DG2 (q : Ens (f1 sl st) fun x st => mDGet2.isDct st x = true ∧ Ens (f2 sl st) fun y st => Ens (f3 sl st) fun z st => ∃ r, dGet st x y = some r ∧ Q (r.getD z) st) : Ens (mDGet2 f1 f2 f3 sl st) Q := ens_bnd (q.imp fun _ _ ⟨e, q⟩ => by
  rw [e]
  exact ens_bnd (q.imp fun _ _ q => ens_bnd (q.imp fun _ _ ⟨_, e, q⟩ => by simp only [e]; exact ens_ret q)))
theorem ens_DI (q : Ens (f1 sl st) fun y st => Ens (f2 sl st) fun x st => ∃ r, dGet st x y = some r ∧ Q (.bl r.isSome) st) : Ens (mDIn false f1 f2 sl st) Q := ens_bnd (q.imp fun _ _ q => ens_bnd (q.imp fun _ _ ⟨_, e, q⟩ => by simp only [e]; exact ens_ret q))
theorem ens_KE (q : Ens (f sl st) fun x st => ∃ ds, keysD st x = some ds ∧ Q (.lst ds) st) : Ens (mKeys false f sl st) Q := ens_bnd (q.imp fun _ _ ⟨_, e, q⟩ => by simp only [e]; exact ens_ret q)
theorem ens_MD (q : Ens (f1 sl st) fun x st => Ens (f2 sl st) fun d st => ∃ is, lstOf st x = some (iDs is) ∧ Q (if is = [] then d else .int (maxOf is)) st) : Ens (mMaxD f1 f2 sl st) Q := ens_bnd (q.imp fun _ _ q => ens_bnd (q.imp fun _ _ ⟨is, e, q⟩ => by
  rw [e]
  show Ens (match intsOf (is.map .int) with
    | some is => if is = [] then _ else _
    | none => none) Q
  rw [intsOf_map]
  by_cases z : is = []
  · rw [if_pos z] at q; simp only [if_pos z]; exact ens_ret q
  · rw [if_neg z] at q; simp only [if_neg z]; exact ens_ret q))
theorem ens_NK (q : Q (.ptr st.length) (st ++ [some (.dct [])])) : Ens (mDNewK sl st) Q := ens_ret q
theorem ens_NT (q : Q (.ptr st.length) (st ++ [some (.dcT [])])) : Ens (mDNewT sl st) Q := ens_ret q
theorem ens_B (q : Ens (f sl st) fun x st => ∃ b, x = .bl b ∧ B b st) : Ens (mB f sl st) B := ens_bnd (q.imp fun _ _ ⟨_, e, q⟩ => by subst e; exact ens_ret q)
theorem ens_TR (q : Ens (f sl st) fun x st => ∃ b, truD st x = some b ∧ B b st) : Ens (mTru f sl st) B := ens_bnd (q.imp fun _ _ ⟨_, e, q⟩ => ens_lift e q)
theorem ens_AND (q : Ens (c1 sl st) fun b st => (b = true → Ens (c2 sl st) B) ∧ (b = false → B false st)) : Ens (mAnd c1 c2 sl st) B := ens_bnd (q.imp fun _ _ q => ens_cond q.1 fun e => ens_ret (q.2 e))
theorem ens_OR (q : Ens (c1 sl st) fun b st => (b = true → B true st) ∧ (b = false → Ens (c2 sl st) B)) : Ens (mOr c1 c2 sl st) B := ens_bnd (q.imp fun _ _ q => ens_cond (fun e => ens_ret (q.1 e)) q.2)
theorem ens_NOT (q : Ens (c1 sl st) fun b st => B (!b) st) : Ens (mNot c1 sl st) B := ens_bnd (q.imp fun _ _ q => ens_ret q)
theorem ens_ANDV (q : Ens (f1 sl st) fun x st => ∃ b, x = .bl b ∧ (b = true → Ens (f2 sl st) Q) ∧ (b = false → Q (.bl false) st)) : Ens (mAndV f1 f2 sl st) Q := ens_bnd (q.imp fun _ _ ⟨_, e, q⟩ => by subst e; exact ens_cond q.1 fun e => ens_ret (q.2 e))
theorem ens_NOTV (q : Ens (f1 sl st) fun x st => ∃ b, x = .bl b ∧ Q (.bl (!b)) st) : Ens (mNotV f1 sl st) Q := ens_bnd (q.imp fun _ _ ⟨_, e, q⟩ => by subst e; exact ens_ret q)
/-- a comprehension that takes every item -/
theorem ens_lcY {i : Nat} {fe : FE} {sl : Sl} {st : Sto} (F : D → D) {Q : List D → Sto → Prop} : ∀ (ds es : List D), es.length + ds.length ≤ sizeLine → (∀ d ∈ ds, fe (sl.set i (some d)) st = ret (F d) st) → Q (es ++ ds.map F) st → Ens (lcL (gNm i) tYesD fe sl ds es st) Q
  | [], es, _, _, q => ens_ret (by rw [List.map_nil, List.append_nil] at q; exact q)
  | d :: ds, es, hl, h, q => by
    rw [List.length_cons] at hl
    show Ens (bnd (fe (sl.set i (some d)) st) _) Q
    rw [h d List.mem_cons_self]
    show Ens (if es.length < sizeLine then _ else none) Q
    refine ens_ite (by omega) (ens_lcY F ds _ (by rw [List.length_append, List.length_singleton]; omega) (fun e he => h e (List.mem_cons_of_mem _ he)) ?_)
    rw [List.append_assoc]
    exact q
theorem ens_LC {it : FA} {gt : FG} {tt : FT} {fe : FE} {vs : List Nat} (q : Ens (it sl st) fun ds st => Ens (lcL gt tt fe (wipeD sl vs) ds [] st) fun es st => Q (.lst es) st) : Ens (mLc false it gt tt fe vs sl st) Q := ens_bnd (q.imp fun _ _ q => ens_bnd (ens_noX (q.imp fun _ _ q => ens_ret q)))
/-! walks -/
theorem ens_FOR {it : FA} {tg : FG} {body : FS} (q : Ens (it sl st) fun ds st => EnsS (forL tg body ds sl st) N R) : EnsS (sFor it tg body sl st) N R := ens_bnd q
theorem ens_R1 (q : Ens (g sl st) fun ds st => ∃ j : Int, ds = [.int j] ∧ (-(2 ^ 62) ≤ j ∧ j < 2 ^ 62) ∧ P (rngD 0 j.toNat) st) : Ens (iR1 g sl st) P := ens_bnd (q.imp fun _ _ ⟨_, e, c, q⟩ => by subst e; exact ens_ite c (ens_ret q))
theorem ens_IA (q : Ens (f sl st) fun d st => ∃ ds, (d = .lst ds ∨ d = .tup ds ∨ (∃ x, d = .str x ∧ ds = chrD x) ∨ ∃ ns, d = .scr ns ∧ ds = iDs ns) ∧ P ds st) : Ens (iAny f sl st) P := ens_bnd (q.imp fun _ _ ⟨_, e, q⟩ => by
  rcases e with rfl | rfl | ⟨x, rfl, rfl⟩ | ⟨x, rfl, rfl⟩
  · exact ens_ret q
  · exact ens_ret q
  · exact ens_ret q
  · exact ens_ret q)
theorem ens_IE (q : Ens (g sl st) fun ds st => ∃ es, ds = [.lst es] ∧ P (enumD es) st) : Ens (iE g sl st) P := ens_bnd (q.imp fun _ _ ⟨_, e, q⟩ => by subst e; exact ens_ret q)
/-! more statements -/
theorem ens_AUG {i : Nat} {op : Sto → D → D → MM D} {x : D} (e : gv sl i = some x) (q : Ens (f sl st) fun y st => Ens (op st x y) fun z st => N ((sl.set i (some z))) st) : EnsS (sAug i f op sl st) N R := by
  show EnsS (match gv sl i with
    | some x => bnd (f sl st) fun y st => bnd (op st x y) fun z st => ret (.nx (sl.set i (some z))) st
    | none => none) N R
  rw [e]
  exact ens_bnd (q.imp fun _ _ q => ens_bnd (q.imp fun _ _ q => ens_ret q))
theorem ens_PAR {i j : Nat} (q : Ens (g sl st) fun ds st => ∃ x y, ds = [x, y] ∧ N (((sl.set i (some x)).set j (some y))) st) : EnsS (sPar i j g sl st) N R := ens_bnd (q.imp fun _ _ ⟨_, _, e, q⟩ => by subst e; exact ens_ret q)
theorem ens_FRZ {i : Nat} {p : FS} {sl2 : Sl} {st2 : Sto} (e : frzAt i sl st = some (sl2, st2)) (q : EnsS (p sl2 st2) N R) : EnsS (sFrz i p sl st) N R := by
  unfold sFrz; rw [e]; exact q
theorem ens_DP (q : Ens (f3 sl st) fun v st => Ens (f1 sl st) fun x st => Ens (f2 sl st) fun y st => ∃ st2, dPut st x y v = some st2 ∧ N sl st2) : EnsS (sDPut f1 f2 f3 sl st) N R := ens_bnd (q.imp fun _ _ q => ens_bnd (q.imp fun _ _ q => ens_bnd (q.imp fun _ _ ⟨_, e, q⟩ => by simp only [e]; exact ens_ret q)))
/-! what is built in -/
theorem ens_I {C : Int → Int → Prop} [∀ i j, Decidable (C i j)] {p : Int → Int → D} {i j : Int} (c : C i j) (q : Q (p i j) st) : Ens (gI C p st (.int i) (.int j)) Q := ens_ite c (ens_ret q)
theorem ens_len {x : D} {ds : List D} (e : lstOf st x = some ds) (q : Q (.int ds.length) st) : Ens (cLen st [x]) Q := by
  cases x with
  | lst _ => cases e; exact ens_ret q
  | scr _ => cases e; exact ens_ret q
  | ptr _ =>
    show Ens (match lstOf st _ with
      | some xs => ret (.int xs.length) st
      | none => none) Q
    rw [e]; exact ens_ret q
  | _ => cases e
theorem ens_ix {x d : D} {ds : List D} {i : Int} (e : lstOf st x = some ds) (h : atI ds i = some d) (q : Q d st) : Ens (gIx st x (.int i)) Q := by
  cases x with
  | lst _ => cases e; exact ens_lift h q
  | scr _ => cases e; exact ens_lift h q
  | ptr _ =>
    show Ens (match lstOf st _ with
      | some ds => lift (atI ds i) st
      | none => none) Q
    rw [e]; exact ens_lift h q
  | _ => cases e
theorem ens_ixT {d : D} {ds : List D} {i : Int} (h : atI ds i = some d) (q : Q d st) : Ens (gIx st (.tup ds) (.int i)) Q := ens_lift h q
theorem ens_gsl {c : Bool} {x : D} {ds : List D} {lo hi : Option Int} (e : lstOf st x = some ds) (q : Ens (mkL c (cutD ds lo hi) st) Q) : Ens (gSl c st x lo hi) Q := by
  cases x with
  | lst _ => cases e; exact q
  | scr _ => cases e; exact q
  | ptr _ =>
    show Ens (match lstOf st _ with
      | some ds => mkL c (cutD ds lo hi) st
      | none => none) Q
    rw [e]; exact q
  | _ => cases e
theorem ens_eqI {i j : Int} (q : Q (.bl (decide (i = j))) st) : Ens (gEq st (.int i) (.int j)) Q := by
  have e : decide (V.int i = V.int j) = decide (i = j) := by by_cases z : i = j <;> simp [z]
  rw [← e] at q
  exact ens_ret q
theorem ens_neI {i j : Int} (q : Q (.bl (!decide (i = j))) st) : Ens (gNe st (.int i) (.int j)) Q := by
  have e : decide (V.int i = V.int j) = decide (i = j) := by by_cases z : i = j <;> simp [z]
  rw [← e] at q
  exact ens_ret q
theorem ens_app {i : Nat} {ds : List D} {y : D} (e : st[i]? = some (some (.lst ds))) (h : ds.length < sizeLine) (q : Q .non (st.set i (some (.lst (ds ++ [y]))))) : Ens (gAppend st (.ptr i) [y]) Q := by
  have e2 : cellL st i = some ds := by unfold cellL; rw [e]
  show Ens (match cellL st i with
    | some ds => if ds.length < sizeLine then putL i (ds ++ [y]) .non st else none
    | none => none) Q
  rw [e2]
  exact ens_ite h (ens_ret q)
theorem ens_addL {c : Bool} {x y : D} {ds es : List D} (e1 : lstOn st x = some ds) (e2 : lstOn st y = some es) (h : ds.length + es.length ≤ sizeLine) (q : Ens (mkL c (ds ++ es) st) Q) : Ens (gAdd c st x y) Q := by
  have main : Ens (match lstOn st x, lstOn st y with
    | some ds, some es => if ds.length + es.length ≤ sizeLine then mkL c (ds ++ es) st else none
    | _, _ => none) Q := by
    rw [e1, e2]; exact ens_ite h q
  cases x with
  | lst _ => exact main
  | ptr _ => exact main
  | _ => cases e1
theorem ens_sort {x : D} {ds : List D} (e : lstOf st x = some ds) (h : sortOk ds = true) (q : Q (.lst (ds.mergeSort leD)) st) : Ens (cSorted false st [x]) Q := by
  show Ens (match lstOf st x with
    | some es => if sortOk es = true then mkL false (es.mergeSort leD) st else none
    | none => none) Q
  rw [e]
  exact ens_ite h (ens_ret q)
theorem ens_maxL {x : D} {is : List Int} (e : lstOf st x = some (iDs is)) (h : is ≠ []) (q : Q (.int (maxOf is)) st) : Ens (cMaxL st [x]) Q := by
  show Ens (match (lstOf st x).bind intsOf with
    | some is => if is = [] then none else ret (.int (maxOf is)) st
    | none => none) Q
  rw [e]
  show Ens (match intsOf (is.map .int) with
    | some is => if is = [] then none else ret (.int (maxOf is)) st
    | none => none) Q
  rw [intsOf_map]
  show Ens (if is = [] then none else ret (.int (maxOf is)) st) Q
  rw [if_neg h]; exact ens_ret q
theorem iDs_len (xs : List Int) : (iDs xs).length = xs.length := List.length_map ..
theorem iDs_app (xs ys : List Int) : iDs (xs ++ ys) = iDs xs ++ iDs ys := List.map_append ..
theorem iDs_get (xs : List Int) (i : Nat) : (iDs xs)[i]? = (xs[i]?).map .int := List.getElem?_map ..
theorem at_nat {α : Type} {ds : List α} {i : Nat} {d : α} (h : ds[i]? = some d) : atI ds (i : Int) = some d := by
  have hi : i < ds.length := by
    by_cases z : i < ds.length
    · exact z
    · rw [List.getElem?_eq_none (by omega)] at h; cases h
  unfold atI ixN
  rw [if_pos (Int.natCast_nonneg _), if_pos (Int.ofNat_lt.mpr hi)]
  exact h
theorem at_last {α : Type} {ds : List α} {d : α} (h : ds[ds.length - 1]? = some d) : atI ds (-1 : Int) = some d := by
  have hi : ds.length - 1 < ds.length := by
    by_cases z : ds.length - 1 < ds.length
    · exact z
    · rw [List.getElem?_eq_none (by omega)] at h; cases h
  unfold atI ixN
  rw [if_neg (by decide), if_pos (by omega)]
  show ds[((-1 : Int) + (ds.length : Int)).toNat]? = some d
  have : ((-1 : Int) + (ds.length : Int)).toNat = ds.length - 1 := by omega
  rw [this]; exact h
end
end M

/-! An own error's __init__ that says super().__init__(e), then lays its attributes. -/
namespace M
open PySem PySem.Calls PySem.Spec PyProof.Rows L2 PySem.W
section
variable {CX : CXT} {P : Program} {w : World} {K : PySem.W.Frag} {mg : Str → Option Value} {base : Heap} {N ps : List Str} {F : NdefX.NF} {f : Addr} {k : Nat} {A : Around} {outer : List Env} {s : Shared} {H : Hp} {E : XK}
/-- what the text and the written part say of the class D whose __init__ stands at f -/
structure SupI (P : Program) (K : PySem.W.Frag) (mg : Str → Option Value) (f D cc : Addr) (F : NdefX.NF) (slf : Str) : Prop where
  fn : ∃ (oc : Value) (od : Option Addr) (fd : FuncData) (osl : Array (Option Value)) (ar : Arg), K.lookup f = some ⟨oc, od, .func fd, osl⟩ ∧ (fd.params.posonlyargs ++ fd.params.args).head? = some ar ∧ ar.arg = slf
  cell : ∃ (oc : Value) (od : Option Addr) (osl : Array (Option Value)), K.lookup cc = some ⟨oc, od, .cell (some (.ref D)), osl⟩
  clo : F.cl = [(("__class__" : Str), cc)]
  code : ∃ (oc : Value) (od : Option Addr) (vs : Array Value) (osl : Array (Option Value)) (file : Str) (tf : Tok), K.lookup F.c = some ⟨oc, od, .fields vs, osl⟩ ∧ vs[2]? = some (.str file tf) ∧ ((P.main.file : Str) == file) = true
  top : (P.main.scope.names.lookup ("super" : Str)).isSome = false
  cls : ∃ cd, clsIn K D = some cd
  mgS : mg "super" = none
  opq : nsIn K cStatics "thirdparty.any" = some none
  ks : F.scope.names.lookup ("super" : Str) = some .globalImplicit
  kc : F.scope.names.lookup ("__class__" : Str) = some .free
  ka : F.scope.names.lookup slf = some .local
/-- .. and of the class C of the object -/
structure SupC (K : PySem.W.Frag) (D C : Addr) : Prop where
  oex : OexC K C
  sub : mroIn K C (.ref D) = some true
  meth : ks_superIn K C D "__init__" = some (some (.builtin "ValueError.__init__"))
  isV : subIn K (.ref C) (.type "ValueError") = some true
theorem inst_exo {h : Heap} {a C t1 : Addr} (ho : h.get? a = some ({ cls := .ref C, dict := none, data := .fields #[.ref t1, .none, .none, .none, .bool false, .none] } : Obj)) : InstAt h a ({ cls := .ref C, dict := none, data := .fields #[.ref t1, .none, .none, .none, .bool false, .none] } : Obj) C none := ⟨ho, rfl, rfl, trivial⟩
theorem oexC_cls {C : Addr} (T : OexC K C) : ∃ cd, clsIn K C = some cd := by
  obtain ⟨nm, q, N, bs, bm, sn, sub, ab, col, dd, k0, k1, k2, k3, k5, hC, hbm⟩ := T.cls
  exact ⟨{ name := nm, bases := bs, mro := .ref C :: bm, ns := N, qualname := q, hasDict := true, slotNames := sn, subclasses := sub, abstract := ab, collection := col, hasDel := false }, by unfold clsIn; rw [hC] <;> rfl⟩
/-- super() in the body -/
theorem sup_obj {X : Cx} {pins : List (Addr × Obj)} {σ : L2.St} {D cc C a : Addr} {slf : Str} {body : List Stmt} {p0 p1 : Pos} {attr : Str} {whole : Sem Value} {L : Addr} {Q : Value → Shared → Prop} {Er : Value → Shared → Prop} (B : SupI X.prog X.K X.mg f D cc F slf) (T : SupC X.K D C) (he : X.env = NdefX.envF F f L) (hat : (attr == ("__class__" : Str)) = false)
    (I : Inv X pins σ H s) (h0 : X.N[0]? = some slf) (hv : σ[0]? = some (some (V.ref a))) (ha : H a = some (exo a C none))
    (h : ∀ h', h'.get? s.heap.objs.size = some { cls := .type "super", dict := none, data := .fields #[.ref D, .ref a, .ref C], slots := #[] } → (∀ y o, s.heap.get? y = some o → h'.get? y = some o) → Q (.ref s.heap.objs.size) { s with heap := h' }) :
    PySem.wpAt (model X.prog X.w) X.A (.func body X.env) (attributeBase (.Call (.Name "super" p0) [] [] p1) attr X.env whole) Q Er s := by
  obtain ⟨oc1, od1, fd, osl1, ar, hf, hp, har⟩ := B.fn
  obtain ⟨oc2, od2, osl2, hcell⟩ := B.cell
  obtain ⟨oc3, od3, vs, osl3, file, tf, hcode, hvs, hfile⟩ := B.code
  obtain ⟨cdD, hcd⟩ := B.cls
  have KI := I.kIn
  obtain ⟨oD, hD1, hD2⟩ : ∃ oD, s.heap.get? D = some oD ∧ oD.data = .cls cdD := by
    unfold clsIn at hcd
    split at hcd
    · rename_i c d cd' sl ho
      cases hcd
      exact ⟨_, KI _ _ ho, rfl⟩
    · cases hcd
  have hkn : X.env.scope.kind = .function := I.ok.kind
  have sc : X.env.scope = F.scope := by rw [he]
  have hks : X.env.kindOf "super" = some .globalImplicit := by show X.env.scope.names.lookup _ = _; rw [sc]; exact B.ks
  have hkc : X.env.kindOf "__class__" = some .free := by show X.env.scope.names.lookup _ = _; rw [sc]; exact B.kc
  have hka : X.env.kindOf ar.arg = some .local := by show X.env.scope.names.lookup _ = _; rw [sc, har]; exact B.ka
  obtain ⟨t1, ho⟩ := exo_at I.hok ha
  obtain ⟨m, hns, hl⟩ := I.loc
  have hm : m ar.arg = some (.ref a) := by
    obtain ⟨u, ru, lk⟩ := hl 0 slf (V.ref a) h0 hv (.inl (by rw [sc]; exact B.ka))
    obtain rfl : u = Value.ref a := ru
    rcases lk with ⟨_, e⟩ | ⟨z, _⟩
    · rw [har]; exact e
    · rw [har] at hka
      rcases z with z | z
      · rw [hka] at z; cases z
      · rw [hka] at z; cases z
  obtain ⟨mb, hb1, hb2⟩ := I.mod.blt
  refine ks_wpAt_super_base (env := X.env) hks hkc hat (by rw [he]) (KI _ _ hf) rfl hp (by rw [he]) (KI _ _ hcode) rfl hvs hfile B.top ?_
  refine ks_loadName_global hkn hks (Calls.loadGlobal_builtin (by rw [I.ok.glob]; exact I.mod.glob.keeps I.bk) B.mgS (by rw [I.ok.blt]; exact hb1.keeps I.bk) ((hb2 "super" (by decide)).trans PyProof.Rows.Boot.super) ⟨rfl, ?_⟩)
  refine wpAny_loadName_free hkn hkc (by rw [he]; show F.cl.lookup _ = _; rw [B.clo]; rfl) ⟨_, KI _ _ hcell, rfl⟩ ?_
  refine wpAny_loadName_local hkn hka hns hm ?_
  refine ks_wpAny_isType_cls hD1 hD2 ⟨rfl, ?_⟩
  refine ks_wpAny_call_super hD1 hD2 ho rfl (fun c e => by cases e) (looks_mroIn KI T.sub) (fun h' e kk => h h' e kk)
/-- super().__init__ -/
theorem sup_meth {X : Cx} {pins : List (Addr × Obj)} {σ : L2.St} {D C a so : Addr} {pl : Sem Bool} {Q : Value × List Value → Shared → Prop} {Er : Value → Shared → Prop} (T : SupC X.K D C) (hopq : nsIn X.K cStatics "thirdparty.any" = some none)
    (I : Inv X pins σ H s) (ha : H a = some (exo a C none)) (hso : s.heap.get? so = some { cls := .type "super", dict := none, data := .fields #[.ref D, .ref a, .ref C], slots := #[] })
    (h : Q (.ref s.heap.objs.size, []) { s with heap := s.heap.push (kxs_mw "ValueError.__init__" a), toks := s.toks + 1 }) : wpAny (model X.prog X.w) X.A (getMethod (.ref so) "__init__" pl) Q Er s := by
  obtain ⟨t1, ho⟩ := exo_at I.hok ha
  obtain ⟨cd, hc⟩ := oexC_cls T.oex
  have KI := I.kIn
  have J := inst_exo ho
  have hI : Looks (model X.prog X.w) s.heap (isInstance (.ref a) (.type "ValueError")) true := J.type.andThen (looks_subIn KI T.isV)
  have hm := T.meth
  unfold ks_superIn at hm
  rw [hc] at hm
  obtain ⟨hh, g, d, t, os⟩ := s
  exact kxs_getMethod kxs_ValueError hso (looks_opaque KI hopq) (l₀ := cd.mro) (fun A Q E s k q => wpAny_bind ((looks_clsIn KI hc) A _ E s k (wpAny_pure q))) rfl KI hm hI (ks_ne KI J hc) (by decide) h
/-- .. called -/
theorem sup_call {X : Cx} {pins : List (Addr × Obj)} {σ : L2.St} {D C a u : Addr} {us : List Value} {Q : Value → Shared → Prop} {Er : Value → Shared → Prop} (T : SupC X.K D C) (I : Inv X pins σ H s) (ha : H a = some (exo a C none)) (hu : s.heap.get? u = some (kxs_mw "ValueError.__init__" a)) (hl : us.length ≤ sizeLine)
    (h : ∀ s', Inv X pins σ H s' → Q .none s') : wpAny (model X.prog X.w) X.A (call (.ref u) us) Q Er s := by
  obtain ⟨nm, q, N, bs, bm, sn, sub, ab, col, dd, k0, k1, k2, k3, k5, hC, hbm⟩ := T.oex.cls
  obtain ⟨t1, ho⟩ := exo_at I.hok ha
  have KI := I.kIn
  have FB := F.excBase_ValueError
  obtain ⟨hp, g, d, t, os⟩ := s
  have fin : ∀ h', (∀ b o, b ≠ a → hp.get? b = some o → h'.get? b = some o) → h'.get? a = some ({ cls := .ref C, dict := none, data := .fields #[.ref hp.objs.size, .none, .none, .none, .bool false, .none] } : Obj) → Q .none ⟨h', g, d, t, os⟩ := fun h' kk hx => by
    have J := I.write (t' := t) (x := a) (e := a) (o := exo a C none) (by rw [ha]; exact True.intro) (.inl rfl) kk ⟨_, hx⟩ (exo_ok hx)
    have eu : upd H a (exo a C none) = H := by
      funext b
      by_cases hb : b = a
      · rw [hb, upd_same, ha]
      · rw [upd_ne hb]
    rw [eu] at J
    exact h _ J
  refine wpAny_call (codeAny_of_tree ?_)
  show wpAny _ X.A.in1 (callAny (.ref u) ⟨us, []⟩) _ _ _
  simp only [callAny]
  refine wpAny_bind (wpAny_load hu ?_)
  simp only [kxs_mw, show (Value.type "method-wrapper" == Value.type "method" || Value.type "method-wrapper" == Value.type "builtin_function_or_method" || Value.type "method-wrapper" == Value.type "method-wrapper") = true by decide, if_true]
  refine KFB.if_so (by decide) ?_
  refine wpAny_bind (check_bound_init FB.toExcCallFacts (KI _ _ hC) ho rfl ?_)
  refine wpAny_bind (wpAny_pure (wpAny_pure ?_))
  refine ⟨plainId_quiet FB.init.plain _, codeAny_builtin FB.initEntry ?_⟩
  exact exc_init_tree (cls := .ref C) (t0 := t1) (dv := none) (c2 := .none) (c3 := .none) (b4 := .bool false) ho hl fun h' kk e' _ => fin h' kk e'
theorem one_look {n y : Str} {cc c : Addr} (h : List.lookup y [(n, cc)] = some c) : y = n ∧ c = cc := by
  have h : (match y == n with
    | true => some cc
    | false => none) = some c := h
  cases e : y == n with
  | true => rw [e] at h; cases h; exact ⟨eq_of_beq e, rfl⟩
  | false => rw [e] at h; cases h
/-- THE RULE for such an __init__: its first row's argument ta, its other rows t -/
theorem fn_super {rest : List Stmt} {e1 : Expr} {p0 p1 p2 p3 p4 : Pos} {sp : Sp} {oc kV doc pm ct : Value} {od an : Option Addr} {osl : Array (Option Value)} {D cc : Addr} {slf : Str} {name qual : Str} {params : Arguments} {scope : Scope} {cda : Addr}
    (lk : K.lookup f = some ⟨oc, od, .func (fnX name qual params (.Expr (.Call (.Attribute (.Call (.Name "super" p0) [] [] p1) "__init__" p2) [e1] [] p3) p4 :: rest) scope [(("__class__" : Str), cc)] .none kV doc pm an (.ref cda) ct), osl⟩)
    (hF : F = ⟨name, qual, params, .Expr (.Call (.Attribute (.Call (.Name "super" p0) [] [] p1) "__init__" p2) [e1] [] p3) p4 :: rest, scope, [(("__class__" : Str), cc)], cda⟩)
    (hcd : codeIn K (.ref cda) qual = true) (S : NdefX.NScope N ps ["__class__"] scope) (B : SupI P K mg f D cc F slf) (h0 : N[0]? = some slf)
    (len : ∀ vs H Q E, sp vs H Q E → vs.length = ps.length)
    (hbody : ∀ (A : Around) (outer : List Env) (s : Shared) (H : Hp) (vs : List V) (Q : VK) (E : XK), Room k (A.deeper (NdefX.envF F f s.heap.objs.size)) → sp vs H Q E →
      ∃ (a C : Addr) (ws : List V) (ta : TA) (t : TS), vs = .ref a :: ws ∧ SupC K D C ∧ H a = some (exo a C none) ∧ PA (NdefX.ncx CX P w K mg base N F f A outer s H E) [e1] ta ∧ PSs (NdefX.ncx CX P w K mg base N F f A outer s H E) rest t ∧
        ta (NdefX.startF N vs [none]) H fun us H1 => us.length ≤ 1000 ∧ H1 a = some (exo a C none) ∧ t { nx := fun _ H' => Q .non H', rt := Q } (NdefX.startF N vs [none]) H1)
    (hm : ∀ L, eval (.Call (.Attribute (.Call (.Name "super" p0) [] [] p1) "__init__" p2) [e1] [] p3) (NdefX.envF F f L) = (do
      let ov ← attributeBase (.Call (.Name "super" p0) [] [] p1) "__init__" (NdefX.envF F f L) (eval (.Call (.Name "super" p0) [] [] p1) (NdefX.envF F f L))
      standAt p2.atName
      let (f', first) ← holding [ov] (getMethod ov "__init__" (pure false))
      callWith p3 f' first (backTo p3 (starEach [e1] (NdefX.envF F f L))) []) := by exact fun _ => rfl)
    (hst : ∀ L, starEach [e1] (NdefX.envF F f L) = (false, eval e1 (NdefX.envF F f L)) :: starEach [] (NdefX.envF F f L) := by exact fun _ => rfl)
    (hin : ∀ L, interactive (NdefX.envF F f L) = false := by exact fun _ => rfl) (hsw : ∀ L, swapsWith (.Call (.Attribute (.Call (.Name "super" p0) [] [] p1) "__init__" p2) [e1] [] p3) none p4.line (NdefX.envF F f L) = pure false := by exact fun _ => rfl) :
    FnOk P w K mg base CX (k + 1) f (fnX name qual params (.Expr (.Call (.Attribute (.Call (.Name "super" p0) [] [] p1) "__init__" p2) [e1] [] p3) p4 :: rest) scope [(("__class__" : Str), cc)] .none kV doc pm an (.ref cda) ct) ps sp := by
  subst hF
  refine ⟨len, fun A outer s H args us vs Q E hr e0 hb r hsp => ?_⟩
  have hl := len _ _ _ _ hsp
  have KX : K.In s.heap := e0.mod.kin.keeps fun b o e => (e0.bs b o e).1
  have lim : s.heap.NoLimit := e0.mod.nolimit.keeps fun b o e => (e0.bs b o e).1
  refine codeAny_call_function hr.depth (KX _ _ lk) rfl S.co S.gen rfl (codeRec_of KX hcd) (hb _ _ _ _ ?_)
  refine wpAny_newFunctionEnv S.nocell (fun ⟨n, _⟩ hy => S.par n (List.of_mem_zip hy).1) (fun h₁ hns hsb => ⟨lim.fresh _ hsb, ?_⟩) S.kind
  generalize hF : (⟨name, qual, params, .Expr (.Call (.Attribute (.Call (.Name "super" p0) [] [] p1) "__init__" p2) [e1] [] p3) p4 :: rest, scope, [(("__class__" : Str), cc)], cda⟩ : NdefX.NF) = F at *
  show codeAny _ _ (.func (.Expr (.Call (.Attribute (.Call (.Name "super" p0) [] [] p1) "__init__" p2) [e1] [] p3) p4 :: rest) (callEnv (fnX name qual params (.Expr (.Call (.Attribute (.Call (.Name "super" p0) [] [] p1) "__init__" p2) [e1] [] p3) p4 :: rest) scope [(("__class__" : Str), cc)] .none kV doc pm an (.ref cda) ct) s.heap.objs.size f)) _ _
  have ee : callEnv (fnX name qual params (.Expr (.Call (.Attribute (.Call (.Name "super" p0) [] [] p1) "__init__" p2) [e1] [] p3) p4 :: rest) scope [(("__class__" : Str), cc)] .none kV doc pm an (.ref cda) ct) s.heap.objs.size f = NdefX.envF F f s.heap.objs.size := by subst hF; rfl
  rw [ee]
  refine ks_codeAny_funcAt ?_
  have kp : ∀ b o, s.heap.get? b = some o → h₁.get? b = some o := fun b o e => hsb.extBut b o (Nat.ne_of_lt (Heap.lt_size e)) (Heap.get?_push_of_some _ e)
  obtain ⟨a, C, ws, ta, t, ev, T, ha, pa, ps', hq⟩ := hbody A outer s H vs Q E (hr.deeper _) hsp
  obtain ⟨oc2, od2, osl2, hcell⟩ := B.cell
  have CA : NdefX.CellsAt F.cl ["__class__"] [none] s.heap H := by
    refine ⟨rfl, fun y c e => ?_, fun x y c e1 e2 => ?_, fun i y e => ?_⟩
    · rw [B.clo] at e
      obtain ⟨_, rfl⟩ := one_look e
      obtain ⟨q1, q2⟩ := e0.bs _ _ (e0.mod.kin _ _ hcell)
      exact ⟨q2, _, ⟨_, q1, rfl⟩⟩
    · rw [B.clo] at e1 e2
      rw [(one_look e1).1, (one_look e2).1]
    · cases i with
      | zero =>
        have e : some ("__class__" : Str) = some y := e
        cases e
        exact ⟨cc, by rw [B.clo]; rfl, fun v z => by cases z⟩
      | succ i => cases e
  have I : Inv (NdefX.ncx CX P w K mg base N F f A outer s H E) [] (NdefX.startF N vs [none]) H { s with heap := h₁, toks := s.toks + (ps.zip us).length } := NdefX.inv_startN (by rw [← hF]; exact S) hr.hd e0 hl r CA hns kp
  have hv : (NdefX.startF N vs [none])[0]? = some (some (V.ref a)) := by rw [ev]; rfl
  refine ks_wpAt_execs_cons (ks_wpAt_Expr_any (ks_wpAt_MethodCall (sup_obj (X := NdefX.ncx CX P w K mg base N F f A outer s H E) B T rfl (by decide) I h0 hv ha fun h' hso kk => ?_) (hm _)) (hin _) (hsw _))
  have I2 := I.kept (t' := s.toks + (ps.zip us).length) kk
  refine sup_meth (X := NdefX.ncx CX P w K mg base N F f A outer s H E) T B.opq I2 ha hso ?_
  have I3 := I2.kept (t' := s.toks + (ps.zip us).length + 1) (h' := h'.push (kxs_mw "ValueError.__init__" a)) fun b o e => Heap.get?_push_of_some _ e
  have hu : (h'.push (kxs_mw "ValueError.__init__" a)).get? h'.objs.size = some (kxs_mw "ValueError.__init__" a) := Heap.get?_push_size _ rfl
  have I4 := I3.pins_of (pins' := [(h'.objs.size, kxs_mw "ValueError.__init__" a)]) fun p hp => by
    rw [List.mem_singleton] at hp
    subst hp
    refine ⟨hu, I2.hok.fresh (Nat.le_refl _), fun z => ?_, fun z => ?_, fun v z => by cases z⟩
    · have q := I2.lt
      have z : h'.objs.size = (NdefX.ncx CX P w K mg base N F f A outer s H E).env.locals := z
      rw [← z] at q
      exact absurd q (Nat.lt_irrefl _)
    · obtain ⟨o, ho, _⟩ := (I2.ok.funs.mem z).2
      have z1 : h'.objs.size < s.heap.objs.size := Heap.lt_size (show s.heap.get? h'.objs.size = some o from ho)
      have z2 : s.heap.objs.size ≤ h'.objs.size := I2.sz
      exact absurd z1 (Nat.not_lt.mpr z2)
  show wpAny _ _ (callWith p3 (.ref h'.objs.size) [] (backTo p3 (starEach [e1] (NdefX.envF F f s.heap.objs.size))) []) _ _ _
  rw [hst]
  refine kxs_callWith (i := "ValueError.__init__") (x := a) rfl (Calls.evalArgs_plain ?_)
  have pr := pa.run p3 _ _ _ _ _ I4 hq
  change wpAny _ _ (spliced (backTo p3 (starEach [e1] (NdefX.envF F f s.heap.objs.size)))) _ _ _ at pr
  rw [hst] at pr
  refine thn pr fun us' s4 ⟨vs', H1, J, r1, hz, ha1, q1⟩ => ?_
  have hu4 : s4.heap.get? h'.objs.size = some (kxs_mw "ValueError.__init__" a) := (J.pin _ (List.mem_append_right _ List.mem_cons_self)).1
  refine ⟨hu4, sup_call T J ha1 hu4 (by
    show us'.length ≤ _
    rw [← r1.length]
    exact Nat.le_trans hz (by unfold PySem.sizeLine; decide)) fun s5 J5 => ?_⟩
  have J6 := J5.pins_of (pins' := []) fun p hp => by cases hp
  refine wpAt_of_wpAny (wpAny_mono (ps'.run [] _ _ _ _ J6 q1) (fun fl s' hs => ?_) fun e s' hs => hs)
  have fin : ∀ {σ' : L2.St} {H' : Hp} {v : V} {u : Value}, Inv (NdefX.ncx CX P w K mg base N F f A outer s H E) [] σ' H' s' → L2.RelV v u → Q v H' → CE outer P w H s Q u s' :=
    fun {σ' H' v u} J rv q => ⟨v, H', J.os, J.bare, J.base, J.hok, rv, q⟩
  cases fl with
  | ret u =>
    obtain ⟨v, σ', H', J, rv, q⟩ := hs
    exact fin J rv q
  | next =>
    obtain ⟨σ', H', J, q⟩ := hs
    exact fin (v := V.non) (u := Value.none) J rfl q
  | brk =>
    obtain ⟨_, _, _, q⟩ := hs
    exact False.elim q
  | cont =>
    obtain ⟨_, _, _, q⟩ := hs
    exact False.elim q
end
end M

namespace M
open PySem PySem.Spec L2
/-! ### f-strings -/
def mFmtR (f : FE) : FE := fun sl st => bnd (f sl st) fun x st => match x with
  | .str y => if (reprText y).length ≤ sizeLine then ret (.str (reprText y)) st else none
  | .int i => if i.natAbs.log2 < 1920 then ret (.str (toString i)) st else none
  | _ => none
def mJs : List FE → Str → FE
  | [], acc => fun _ st => ret (.str acc) st
  | f :: fs, acc => fun sl st => bnd (f sl st) fun x st => match x with
    | .str y => if (acc ++ y).length ≤ sizeLine then mJs fs (acc ++ y) sl st else none
    | _ => none
section
variable {X : Cx} {E : XK} {K : PySem.W.Frag} {a b c e o i : Expr} {es rest : List Expr} {fa fb fc fi : FE} {fs : FA} {ta tb tc : TE} {pos apos cpos p : Pos}
theorem me_fmtR (he : ME X E e fa) : ME X E (.FormattedValue e 114 none pos) (mFmtR fa) := by
  obtain ⟨t, p, q⟩ := he.ex
  refine ⟨_, pe_fmtR p, fun sl σ w Q o s h => ?_⟩
  refine q sl σ w _ o s (post_bnd h fun x dx w1 o1 s1 rx hp => ?_)
  cases dx with
  | str y =>
    obtain ⟨hl, hp⟩ := post_ite hp
    exact .inl ⟨y, rx.str_inv, hl, post_ret o1 (.str _) hp⟩
  | int i =>
    obtain ⟨hl, hp⟩ := post_ite hp
    exact .inr ⟨i, rx.int_inv, hl, post_ret o1 (.str _) hp⟩
  | _ => exact hp.elim
inductive MJ (X : Cx) (E : XK) : List Expr → List FE → Prop where
  | nil : MJ X E [] []
  | cons {e : Expr} {f : FE} {es : List Expr} {fs : List FE} (h : ME X E e f) (r : MJ X E es fs) : MJ X E (e :: es) (f :: fs)
theorem mj_ex {es : List Expr} {fs : List FE} (h : MJ X E es fs) : ∃ ts, PJ X es ts ∧ ∀ acc sl σ w (Q : VK), Ok X.K w → Slots X.K w sl σ → Post X.K E (rD X.K) w (mJs fs acc sl w.st) Q → tJs ts acc σ w.H fun out H1 => Q (.str out) H1 := by
  induction h with
  | nil => exact ⟨[], .nil, fun acc sl σ w Q o s h => post_ret o (.str acc) h⟩
  | cons h r ih =>
    obtain ⟨t, p, q⟩ := h.ex
    obtain ⟨ts, ps, qs⟩ := ih
    refine ⟨t :: ts, .cons p ps, fun acc sl σ w Q o s h => ?_⟩
    refine q sl σ w _ o s (post_bnd h fun x dx w1 o1 s1 rx hp => ?_)
    cases dx with
    | str y =>
      obtain ⟨hl, hp⟩ := post_ite hp
      exact ⟨y, rx.str_inv, hl, qs _ sl σ w1 Q o1 (s.step s1) hp⟩
    | _ => exact hp.elim
theorem me_joined {v1 v2 : Expr} {rest : List Expr} {fs : List FE} (h : MJ X E (v1 :: v2 :: rest) fs) : ME X E (.JoinedStr (v1 :: v2 :: rest) pos) (mJs fs Str.empty) := by
  obtain ⟨ts, p, q⟩ := mj_ex h
  exact ⟨_, pe_joined p, fun sl σ w Q o s h => q _ sl σ w Q o s h⟩
end
/-- says the same, whatever the store -/
def Calm (f : FE) (g : Sl → Option D) : Prop := ∀ sl st, f sl st = lift (g sl) st
theorem calm_C (d : D) : Calm (mC d) fun _ => some d := fun _ _ => rfl
theorem calm_var (i : Nat) : Calm (mVar i) fun sl => gv sl i := fun _ _ => rfl
def fmtD : D → Option D
  | .str y => if (reprText y).length ≤ sizeLine then some (.str (reprText y)) else none
  | .int i => if i.natAbs.log2 < 1920 then some (.str (toString i)) else none
  | _ => none
theorem calm_fmtR {f : FE} {g : Sl → Option D} (h : Calm f g) : Calm (mFmtR f) fun sl => (g sl).bind fmtD := fun sl st => by
  unfold mFmtR
  rw [h]
  show _ = lift ((g sl).bind fmtD) st
  cases g sl with
  | none => rfl
  | some d =>
    cases d with
    | str y =>
      show (if (reprText y).length ≤ sizeLine then ret (D.str (reprText y)) st else none) = lift (if (reprText y).length ≤ sizeLine then some (D.str (reprText y)) else none) st
      by_cases z : (reprText y).length ≤ sizeLine
      · rw [if_pos z, if_pos z]; rfl
      · rw [if_neg z, if_neg z]; rfl
    | int i =>
      show (if i.natAbs.log2 < 1920 then ret (D.str (toString i)) st else none) = lift (if i.natAbs.log2 < 1920 then some (D.str (toString i)) else none) st
      by_cases z : i.natAbs.log2 < 1920
      · rw [if_pos z, if_pos z]; rfl
      · rw [if_neg z, if_neg z]; rfl
    | _ => rfl
def joinD : List (Sl → Option D) → Str → Sl → Option D
  | [], acc, _ => some (.str acc)
  | g :: gs, acc, sl => match g sl with
    | some (.str y) => if (acc ++ y).length ≤ sizeLine then joinD gs (acc ++ y) sl else none
    | _ => none
inductive Calms : List FE → List (Sl → Option D) → Prop where
  | nil : Calms [] []
  | cons {f : FE} {g : Sl → Option D} {fs : List FE} {gs : List (Sl → Option D)} (h : Calm f g) (r : Calms fs gs) : Calms (f :: fs) (g :: gs)
theorem calm_js : ∀ {fs : List FE} {gs : List (Sl → Option D)}, Calms fs gs → ∀ acc, Calm (mJs fs acc) (joinD gs acc)
  | _, _, .nil, acc => fun _ _ => rfl
  | _, _, .cons (f := f) (g := g) (fs := fs) (gs := gs) h r, acc => fun sl st => by
    unfold mJs joinD
    rw [h]
    cases g sl with
    | none => rfl
    | some d =>
      cases d with
      | str y =>
        show (if (acc ++ y).length ≤ sizeLine then mJs fs (acc ++ y) sl st else none) = lift (if (acc ++ y).length ≤ sizeLine then joinD gs (acc ++ y) sl else none) st
        by_cases z : (acc ++ y).length ≤ sizeLine
        · rw [if_pos z, if_pos z]; exact calm_js r _ sl st
        · rw [if_neg z, if_neg z]; rfl
      | _ => rfl
/-! ### an error's attributes last -/
theorem repx_step {K : PySem.W.Frag} {w w' : Ws} {e : Exn} {d : Option Addr} (o : Ok K w) (s : Step w w') (h : RepX K w e d) : RepX K w' e d := by
  cases d with
  | none => exact h
  | some d =>
    obtain ⟨vs, h1, h2, h3, h4⟩ := h
    have no : ¬ Own w d := fun ⟨i, ⟨c, l⟩, z⟩ => by
      obtain ⟨a, e1, _, ca⟩ := o.own i c l
      rw [z] at e1
      cases e1
      cases ca with
      | lst q _ => rw [h1] at q; cases q
      | dct q _ _ => rw [h1] at q; cases q
      | dcT q _ _ => rw [h1] at q; cases q
      | ins q _ _ => rw [h1] at q; cases q
    refine ⟨vs, s.frame _ _ h1 no, ?_, h3, h4.mono s.le s.pre⟩
    rw [s.old d (by rw [h1]; exact Option.some_ne_none _) (fun xs z => by rw [h1] at z; cases z) no]
    exact h2
/-! ### the world beside an error in the making -/
/-- another object at a free place that is none of ours -/
def Ws.more (w : Ws) (a : Addr) (o : HO) : Ws := ⟨w.st, w.al, w.F, upd w.H a o⟩
theorem own_more {w : Ws} {a b : Addr} {o : HO} : Own (w.more a o) b ↔ Own w b := Iff.rfl
theorem ok_more {K : PySem.W.Frag} {w : Ws} {a : Addr} {o : HO} (ok : Ok K w) (hF : w.F a = none) (no : ¬ Own w a) : Ok K (w.more a o) := by
  refine ⟨ok.len, fun b u h => ?_, fun i c h => ?_, ok.inj⟩
  · have h : w.F b = some u := h
    have : b ≠ a := fun z => by rw [z, hF] at h; cases h
    show upd w.H a o b = some u
    rw [upd_ne this]
    exact ok.sub b u h
  · obtain ⟨b, e1, e2, ca⟩ := ok.own i c h
    refine ⟨b, e1, e2, ca.mono (Le.refl _) (Pre.refl _) ?_⟩
    show upd w.H a o b = w.H b
    exact upd_ne fun z => no (by rw [← z]; exact ⟨i, ⟨c, h⟩, e1⟩)
theorem free_F {K : PySem.W.Frag} {w : Ws} (ok : Ok K w) {a : Addr} (h : w.H a = none) : w.F a = none := by
  cases q : w.F a with
  | none => rfl
  | some u => rw [ok.sub a u q] at h; cases h
theorem free_own {K : PySem.W.Frag} {w : Ws} (ok : Ok K w) {a : Addr} (h : w.H a = none) : ¬ Own w a := fun ⟨i, ⟨c, l⟩, z⟩ => by
  obtain ⟨b, e1, _, ca⟩ := ok.own i c l
  rw [z] at e1
  cases e1
  exact ca.some h
/-- an error with one attribute: its __init__'s promise -/
def spE1 (K : PySem.W.Frag) (D : Addr) (fld : Str) (g : Sl → Option M.D) : Sp := fun vs H Q E => ∃ (w : Ws) (a C : Addr) (x : V) (d y : M.D), vs = [.ref a, x] ∧ w.H = H ∧ Ok K w ∧ SupC K D C ∧ PySem.W.findIn K (.ref C) fld = some none ∧ H a = some (exo a C none) ∧ w.F a = none ∧ ¬ Own w a ∧ Rep K w.F w.al x d ∧
  g [none, some d, none] = some y ∧ ∀ w', w'.st = w.st → Ok K w' → Step w w' → ∀ dx, w'.H dx = none → dx ≠ a → Q .non (upd (upd w'.H dx (exd dx [(fld, x)])) a (exo a C (some dx)))
theorem fn_err1 {CX : CXT} {P : Program} {w : World} {K : PySem.W.Frag} {mg : Str → Option Value} {base : Heap} {F : NdefX.NF} {f : Addr} {k : Nat}
    {e1 : Expr} {p0 p1 p2 p3 p4 q0 q1 q2 q3 : Pos} {oc kV doc pm ct : Value} {od an : Option Addr} {osl : Array (Option Value)} {D cc : Addr} {slf xn fld : Str} {name qual : Str} {params : Arguments} {scope : Scope} {cda : Addr} {fe : FE} {g : Sl → Option M.D}
    (lk : K.lookup f = some ⟨oc, od, .func (PySem.W.fnX name qual params [.Expr (.Call (.Attribute (.Call (.Name "super" p0) [] [] p1) "__init__" p2) [e1] [] p3) p4, .Assign [.Attribute (.Name slf q0) fld q1] (.Name xn q2) q3] scope [(("__class__" : Str), cc)] .none kV doc pm an (.ref cda) ct), osl⟩)
    (hF : F = ⟨name, qual, params, [.Expr (.Call (.Attribute (.Call (.Name "super" p0) [] [] p1) "__init__" p2) [e1] [] p3) p4, .Assign [.Attribute (.Name slf q0) fld q1] (.Name xn q2) q3], scope, [(("__class__" : Str), cc)], cda⟩)
    (hcd : PySem.W.codeIn K (.ref cda) qual = true) (S : NdefX.NScope [slf, xn, "__class__"] [slf, xn] ["__class__"] scope) (B : SupI P K mg f D cc F slf)
    (hdb : (xn == ("__debug__" : Str)) = false) (hcb : (xn == ("__classdict__" : Str)) = false) (hdb0 : (slf == ("__debug__" : Str)) = false) (hcb0 : (slf == ("__classdict__" : Str)) = false)
    (hmsg : ∀ (A : Around) (outer : List Env) (s : Shared) (H : Hp) (E : XK), ME (NdefX.ncx CX P w K mg base [slf, xn, "__class__"] F f A outer s H E) E e1 fe) (hfe : Calm fe g)
    (hm : ∀ L, eval (.Call (.Attribute (.Call (.Name "super" p0) [] [] p1) "__init__" p2) [e1] [] p3) (NdefX.envF F f L) = (do
      let ov ← attributeBase (.Call (.Name "super" p0) [] [] p1) "__init__" (NdefX.envF F f L) (eval (.Call (.Name "super" p0) [] [] p1) (NdefX.envF F f L))
      standAt p2.atName
      let (f', first) ← holding [ov] (getMethod ov "__init__" (pure false))
      callWith p3 f' first (backTo p3 (starEach [e1] (NdefX.envF F f L))) []) := by exact fun _ => rfl)
    (hin : ∀ L, interactive (NdefX.envF F f L) = false := by exact fun _ => rfl) (hst : ∀ L, starEach [e1] (NdefX.envF F f L) = (false, eval e1 (NdefX.envF F f L)) :: starEach [] (NdefX.envF F f L) := by exact fun _ => rfl)
    (hsw : ∀ L, swapsWith (.Call (.Attribute (.Call (.Name "super" p0) [] [] p1) "__init__" p2) [e1] [] p3) none p4.line (NdefX.envF F f L) = pure false := by exact fun _ => rfl)
    (hsw2 : ∀ L, swapsWith (.Name xn q2) (some (.Attribute (.Name slf q0) fld q1)) q3.line (NdefX.envF F f L) = pure false := by exact fun _ => rfl) :
    FnOk P w K mg base CX (k + 1) f (PySem.W.fnX name qual params [.Expr (.Call (.Attribute (.Call (.Name "super" p0) [] [] p1) "__init__" p2) [e1] [] p3) p4, .Assign [.Attribute (.Name slf q0) fld q1] (.Name xn q2) q3] scope [(("__class__" : Str), cc)] .none kV doc pm an (.ref cda) ct) [slf, xn] (spE1 K D fld g) := by
  have sc : F.scope = scope := by rw [hF]
  refine fn_super (N := [slf, xn, "__class__"]) lk hF hcd S B rfl (fun vs H Q E ⟨_, _, _, _, _, _, e, _⟩ => by rw [e]; rfl) (fun A outer s H vs Q E hr hsp => ?_) (hst := hst) (hsw := hsw) (hin := hin) (hm := hm)
  obtain ⟨wd, a, C, x, d, y, ev, eH, ok, T, hno, ha, hFa, noa, rx, hg, hq⟩ := hsp
  subst eH
  obtain ⟨t, p, q⟩ := (hmsg A outer s wd.H E).ex
  have v0 : PE (NdefX.ncx CX P w K mg base [slf, xn, "__class__"] F f A outer s wd.H E) (.Name slf q0) (tVar 0) := pe_var (X := NdefX.ncx CX P w K mg base [slf, xn, "__class__"] F f A outer s wd.H E) rfl (.inl (by show F.scope.names.lookup slf = _; rw [sc]; exact S.par _ (by simp))) hdb0 hcb0
  have v1 : PE (NdefX.ncx CX P w K mg base [slf, xn, "__class__"] F f A outer s wd.H E) (.Name xn q2) (tVar 1) := pe_var (X := NdefX.ncx CX P w K mg base [slf, xn, "__class__"] F f A outer s wd.H E) rfl (.inl (by show F.scope.names.lookup xn = _; rw [sc]; exact S.par _ (by simp))) hdb hcb
  refine ⟨a, C, [x], _, _, ev, T, ha, pa_cons p pa_nil (hst _), pss_one (ps_ost v0 v1 (hsw2 _)), ?_⟩
  subst ev
  have sl : Slots K wd [none, some d, none] (NdefX.startF [slf, xn, "__class__"] [V.ref a, x] [none]) := by
    refine ⟨rfl, fun i z e => ?_⟩
    match i, e with
    | 0, e => cases e
    | 1, e => cases e; exact ⟨x, rfl, rx⟩
    | 2, e => cases e
    | n + 3, e => cases e
  refine q _ _ wd _ ok sl ?_
  rw [hfe, hg]
  intro v w' est o' st' rv
  have ha' : w'.H a = some (exo a C none) := st'.frame _ _ ha noa
  exact ⟨by show 1 ≤ 1000; decide, ha', x, rfl, V.ref a, rfl, a, C, rfl, T.oex, hno, .inl ⟨ha', fun dx h1 h2 => hq w' est o' st' dx h1 h2⟩⟩
/-- an error with two attributes: its __init__'s promise -/
def spE2 (K : PySem.W.Frag) (D : Addr) (f1 f2 : Str) (g : Sl → Option M.D) : Sp := fun vs H Q E => ∃ (w : Ws) (a C : Addr) (x1 x2 : V) (d1 d2 y : M.D), vs = [.ref a, x1, x2] ∧ w.H = H ∧ Ok K w ∧ SupC K D C ∧ PySem.W.findIn K (.ref C) f1 = some none ∧ PySem.W.findIn K (.ref C) f2 = some none ∧ H a = some (exo a C none) ∧ w.F a = none ∧ ¬ Own w a ∧ Rep K w.F w.al x1 d1 ∧ Rep K w.F w.al x2 d2 ∧
  g [none, some d1, some d2, none] = some y ∧ ∀ w', w'.st = w.st → Ok K w' → Step w w' → ∀ dx, w'.H dx = none → dx ≠ a → Q .non (upd (upd (upd w'.H dx (exd dx [(f1, x1)])) a (exo a C (some dx))) dx (exd dx [(f2, x2), (f1, x1)]))
theorem fn_err2 {CX : CXT} {P : Program} {w : World} {K : PySem.W.Frag} {mg : Str → Option Value} {base : Heap} {F : NdefX.NF} {f : Addr} {k : Nat}
    {e1 : Expr} {p0 p1 p2 p3 p4 q0 q1 q2 q3 r0 r1 r2 r3 : Pos} {oc kV doc pm ct : Value} {od an : Option Addr} {osl : Array (Option Value)} {D cc : Addr} {slf x1n x2n f1 f2 : Str} {name qual : Str} {params : Arguments} {scope : Scope} {cda : Addr} {fe : FE} {g : Sl → Option M.D}
    (lk : K.lookup f = some ⟨oc, od, .func (PySem.W.fnX name qual params [.Expr (.Call (.Attribute (.Call (.Name "super" p0) [] [] p1) "__init__" p2) [e1] [] p3) p4, .Assign [.Attribute (.Name slf q0) f1 q1] (.Name x1n q2) q3, .Assign [.Attribute (.Name slf r0) f2 r1] (.Name x2n r2) r3] scope [(("__class__" : Str), cc)] .none kV doc pm an (.ref cda) ct), osl⟩)
    (hF : F = ⟨name, qual, params, [.Expr (.Call (.Attribute (.Call (.Name "super" p0) [] [] p1) "__init__" p2) [e1] [] p3) p4, .Assign [.Attribute (.Name slf q0) f1 q1] (.Name x1n q2) q3, .Assign [.Attribute (.Name slf r0) f2 r1] (.Name x2n r2) r3], scope, [(("__class__" : Str), cc)], cda⟩)
    (hcd : PySem.W.codeIn K (.ref cda) qual = true) (S : NdefX.NScope [slf, x1n, x2n, "__class__"] [slf, x1n, x2n] ["__class__"] scope) (B : SupI P K mg f D cc F slf)
    (hdb : (x1n == ("__debug__" : Str)) = false) (hcb : (x1n == ("__classdict__" : Str)) = false) (hdb2 : (x2n == ("__debug__" : Str)) = false) (hcb2 : (x2n == ("__classdict__" : Str)) = false) (hdb0 : (slf == ("__debug__" : Str)) = false) (hcb0 : (slf == ("__classdict__" : Str)) = false)
    (hmsg : ∀ (A : Around) (outer : List Env) (s : Shared) (H : Hp) (E : XK), ME (NdefX.ncx CX P w K mg base [slf, x1n, x2n, "__class__"] F f A outer s H E) E e1 fe) (hfe : Calm fe g)
    (hm : ∀ L, eval (.Call (.Attribute (.Call (.Name "super" p0) [] [] p1) "__init__" p2) [e1] [] p3) (NdefX.envF F f L) = (do
      let ov ← attributeBase (.Call (.Name "super" p0) [] [] p1) "__init__" (NdefX.envF F f L) (eval (.Call (.Name "super" p0) [] [] p1) (NdefX.envF F f L))
      standAt p2.atName
      let (f', first) ← holding [ov] (getMethod ov "__init__" (pure false))
      callWith p3 f' first (backTo p3 (starEach [e1] (NdefX.envF F f L))) []) := by exact fun _ => rfl)
    (hin : ∀ L, interactive (NdefX.envF F f L) = false := by exact fun _ => rfl) (hst : ∀ L, starEach [e1] (NdefX.envF F f L) = (false, eval e1 (NdefX.envF F f L)) :: starEach [] (NdefX.envF F f L) := by exact fun _ => rfl)
    (hsw : ∀ L, swapsWith (.Call (.Attribute (.Call (.Name "super" p0) [] [] p1) "__init__" p2) [e1] [] p3) none p4.line (NdefX.envF F f L) = pure false := by exact fun _ => rfl)
    (hsw2 : ∀ L, swapsWith (.Name x1n q2) (some (.Attribute (.Name slf q0) f1 q1)) q3.line (NdefX.envF F f L) = pure false := by exact fun _ => rfl)
    (hsw3 : ∀ L, swapsWith (.Name x2n r2) (some (.Attribute (.Name slf r0) f2 r1)) r3.line (NdefX.envF F f L) = pure false := by exact fun _ => rfl) :
    FnOk P w K mg base CX (k + 1) f (PySem.W.fnX name qual params [.Expr (.Call (.Attribute (.Call (.Name "super" p0) [] [] p1) "__init__" p2) [e1] [] p3) p4, .Assign [.Attribute (.Name slf q0) f1 q1] (.Name x1n q2) q3, .Assign [.Attribute (.Name slf r0) f2 r1] (.Name x2n r2) r3] scope [(("__class__" : Str), cc)] .none kV doc pm an (.ref cda) ct) [slf, x1n, x2n] (spE2 K D f1 f2 g) := by
  have sc : F.scope = scope := by rw [hF]
  refine fn_super (N := [slf, x1n, x2n, "__class__"]) lk hF hcd S B rfl (fun vs H Q E ⟨_, _, _, _, _, _, _, _, e, _⟩ => by rw [e]; rfl) (fun A outer s H vs Q E hr hsp => ?_) (hst := hst) (hsw := hsw) (hin := hin) (hm := hm)
  obtain ⟨wd, a, C, x1, x2, d1, d2, y, ev, eH, ok, T, hno1, hno2, ha, hFa, noa, rx1, rx2, hg, hq⟩ := hsp
  subst eH
  obtain ⟨t, p, q⟩ := (hmsg A outer s wd.H E).ex
  have v0 : ∀ r, PE (NdefX.ncx CX P w K mg base [slf, x1n, x2n, "__class__"] F f A outer s wd.H E) (.Name slf r) (tVar 0) := fun r => pe_var (X := NdefX.ncx CX P w K mg base [slf, x1n, x2n, "__class__"] F f A outer s wd.H E) rfl (.inl (by show F.scope.names.lookup slf = _; rw [sc]; exact S.par _ (by simp))) hdb0 hcb0
  have v1 : PE (NdefX.ncx CX P w K mg base [slf, x1n, x2n, "__class__"] F f A outer s wd.H E) (.Name x1n q2) (tVar 1) := pe_var (X := NdefX.ncx CX P w K mg base [slf, x1n, x2n, "__class__"] F f A outer s wd.H E) rfl (.inl (by show F.scope.names.lookup x1n = _; rw [sc]; exact S.par _ (by simp))) hdb hcb
  have v2 : PE (NdefX.ncx CX P w K mg base [slf, x1n, x2n, "__class__"] F f A outer s wd.H E) (.Name x2n r2) (tVar 2) := pe_var (X := NdefX.ncx CX P w K mg base [slf, x1n, x2n, "__class__"] F f A outer s wd.H E) rfl (.inl (by show F.scope.names.lookup x2n = _; rw [sc]; exact S.par _ (by simp))) hdb2 hcb2
  refine ⟨a, C, [x1, x2], _, _, ev, T, ha, pa_cons p pa_nil (hst _), pss_cons (ps_ost (v0 q0) v1 (hsw2 _)) (pss_one (ps_ost (v0 r0) v2 (hsw3 _))), ?_⟩
  subst ev
  have sl : Slots K wd [none, some d1, some d2, none] (NdefX.startF [slf, x1n, x2n, "__class__"] [V.ref a, x1, x2] [none]) := by
    refine ⟨rfl, fun i z e => ?_⟩
    match i, e with
    | 0, e => cases e
    | 1, e => cases e; exact ⟨x1, rfl, rx1⟩
    | 2, e => cases e; exact ⟨x2, rfl, rx2⟩
    | 3, e => cases e
    | n + 4, e => cases e
  refine q _ _ wd _ ok sl ?_
  rw [hfe, hg]
  intro v w' est o' st' rv
  have ha' : w'.H a = some (exo a C none) := st'.frame _ _ ha noa
  refine ⟨by show 1 ≤ 1000; decide, ha', x1, rfl, V.ref a, rfl, a, C, rfl, T.oex, hno1, .inl ⟨ha', fun dx h1 h2 => ?_⟩⟩
  refine ⟨x2, rfl, V.ref a, rfl, a, C, rfl, T.oex, hno2, .inr ⟨dx, [(f1, x1)], upd_same, ?_, by show 1 ≤ 900; decide, hq w' est o' st' dx h1 h2⟩⟩
  rw [upd_ne h2, upd_same]
/-! ### raise C(e, ..) -/
def sRaise (C : Addr) (flds : List Str) (chk : List D → Option D) (fs : FA) : FS := fun sl st => bnd (fs sl st) fun ds st => if ds.length = flds.length ∧ (chk ds).isSome = true then some (.exc ⟨C, (flds.zip ds).reverse⟩ st) else none
/-- the world once the error is made: its dict alone is told -/
theorem world_made {K : PySem.W.Frag} {w w' : Ws} {a dx C : Addr} {fs : List (Str × V)} {H2 : Hp} (ok : Ok K w) (hn : w.H a = none) (s : Step (w.more a (exo a C none)) w') (o' : Ok K w') (hd : w'.H dx = none) (hda : dx ≠ a)
    (hH2 : ∀ b, b ≠ a → b ≠ dx → H2 b = w'.H b) : ∃ w3, w3.st = w'.st ∧ w3.al = w'.al ∧ w3.F = w'.F ∧ w3.H = upd (del H2 a) dx (.xd fs) ∧ Ok K w3 ∧ Step w w3 ∧ w3.F dx = none := by
  have no : ¬ Own (w.more a (exo a C none)) a := fun z => free_own ok hn z
  have ha : (w.more a (exo a C none)).H a = some (exo a C none) := upd_same
  have hFa : w'.F a = none := by
    rw [s.old a (by rw [ha]; exact Option.some_ne_none _) (fun xs z => by rw [ha] at z; cases z) no]
    exact free_F ok hn
  have hFd := free_F o' hd
  have noa : ¬ Own w' a := fun z => (s.news a z).elim no fun q => by rw [ha] at q; cases q
  have nod := free_own o' hd
  have val : ∀ b, b ≠ a → b ≠ dx → upd (del H2 a) dx (.xd fs) b = w'.H b := fun b h1 h2 => by rw [upd_ne h2, del_ne h1, hH2 b h1 h2]
  have hdw : w.H dx = none := by
    cases q : w.H dx with
    | none => rfl
    | some v =>
      refine absurd hd (s.there dx ?_)
      show upd w.H a (exo a C none) dx ≠ none
      rw [upd_ne hda, q]
      exact Option.some_ne_none _
  have up : ∀ b, b ≠ a → (w.more a (exo a C none)).H b = w.H b := fun b h => upd_ne h
  have nea : ∀ {b : Addr}, w.H b ≠ none → b ≠ a := fun h z => h (by rw [z]; exact hn)
  have ned : ∀ {b : Addr}, w.H b ≠ none → b ≠ dx := fun h z => h (by rw [z]; exact hdw)
  refine ⟨⟨w'.st, w'.al, w'.F, upd (del H2 a) dx (.xd fs)⟩, rfl, rfl, rfl, rfl, ⟨o'.len, fun b v h => ?_, fun i c h => ?_, o'.inj⟩, ⟨s.pre, s.le, fun b v h n => ?_, fun b h t n => ?_, fun b h => ?_, fun b h => ?_⟩, hFd⟩
  · have h : w'.F b = some v := h
    have h1 : b ≠ a := fun z => by rw [z, hFa] at h; cases h
    have h2 : b ≠ dx := fun z => by rw [z, hFd] at h; cases h
    exact (val b h1 h2).trans (o'.sub b v h)
  · obtain ⟨b, e1, e2, ca⟩ := o'.own i c h
    have h1 : b ≠ a := fun z => noa (by rw [← z]; exact ⟨i, ⟨c, h⟩, e1⟩)
    have h2 : b ≠ dx := fun z => nod (by rw [← z]; exact ⟨i, ⟨c, h⟩, e1⟩)
    exact ⟨b, e1, e2, ca.mono (Le.refl _) (Pre.refl _) (val b h1 h2)⟩
  · have hb : w.H b ≠ none := by rw [h]; exact Option.some_ne_none _
    exact (val b (nea hb) (ned hb)).trans (s.frame b v ((up b (nea hb)).trans h) n)
  · exact s.old b (by rw [up b (nea h)]; exact h) (fun xs z => t xs (by rw [up b (nea h)] at z; exact z)) n
  · show upd (del H2 a) dx (.xd fs) b ≠ none
    rw [val b (nea h) (ned h)]
    exact s.there b (by rw [up b (nea h)]; exact h)
  · rcases s.news b h with z | z
    · exact .inl z
    · by_cases e : b = a
      · rw [e]; exact .inr hn
      · rw [up b e] at z; exact .inr z
theorem ms_raise1 {X : Cx} {E : XK} {CX : CXT} {D C fI : Addr} {fld slf xn x : Str} {g : Sl → Option M.D} {k : Nat} {fd : FuncData} {e : Expr} {p cpos pos : Pos} {fs : FA} (hc : X.calm = true) (tk : Takes X fun c d _ H => E c d H) (T : SupC X.K D C) (hno : PySem.W.findIn X.K (.ref C) fld = some none) (iC : PySem.W.findIn X.K (.ref C) "__init__" = some (some (.ref fI)))
    (tI : PySem.W.typeIn X.K (.ref fI) = some (.type "function")) (F1 : FnOk X.prog X.w X.K X.mg X.base CX k fI fd [slf, xn] (spE1 X.K D fld g)) (hr : Room (k + 1) X.A) (hb : Binds X.K fd [slf, xn] []) (hx : Passes CX X (fun _ _ _ => False)) (hm : X.mg x = some (.ref C)) (ha : MA X E [e] fs) (hg : Gl X x := by rfl)
    (hdb : (x == ("__debug__" : Str)) = false := by decide) (he : starEach [e] X.env = (false, eval e X.env) :: starEach [] X.env := by rfl) (hpl : (backTo cpos (starEach [] X.env)).any (·.1) = false := by rfl) :
    MS X E (.Raise (some (.Call (.Name x p) [e] [] cpos)) none pos) (sRaise C [fld] (fun ds => g (none :: (ds.map some ++ [none]))) fs) := by
  obtain ⟨t, pp, q⟩ := ha.ex
  refine ⟨_, ps_raise hc tk (pmk_oex T.oex iC tI F1 hr hb (dvs := []) .nil hx hg hm pp hdb he hpl), fun sl σ w Dd o s h => ?_⟩
  refine q sl σ w _ o s (post_bndS h fun vs ds w1 o1 s1 r hp => ?_)
  obtain ⟨⟨hl, hchk⟩, hp⟩ := postS_ite (p := ds.length = [fld].length ∧ (g (none :: (ds.map some ++ [none]))).isSome = true) hp
  match ds, r, hl with
  | [d], r, _ =>
    obtain ⟨v, rfl, rv⟩ := r.one_inv
    obtain ⟨y, hy⟩ := Option.isSome_iff_exists.mp hchk
    refine ⟨by show 1 ≤ 1000; decide, fun a na => ?_⟩
    have hFa := free_F o1 na
    have noa := free_own o1 na
    refine ⟨w1.more a (exo a C none), a, C, v, d, y, rfl, rfl, ok_more o1 hFa noa, T, hno, upd_same, hFa, noa, rv, hy, fun w' est o' st' dx h1 h2 => ⟨rfl, dx, [(fld, v)], upd_same, ?_, ?_, ?_⟩⟩
    · rw [upd_ne h2, upd_same]
    · cases z : w1.H dx with
      | none => rfl
      | some u =>
        refine absurd h1 (st'.there dx ?_)
        show upd w1.H a (exo a C none) dx ≠ none
        rw [upd_ne h2, z]
        exact Option.some_ne_none _
    · obtain ⟨w3, e1, e2, e3, e4, o3, s3, f3⟩ := world_made (fs := [(fld, v)]) o1 na st' o' h1 h2 (H2 := upd (upd w'.H dx (exd dx [(fld, v)])) a (exo a C (some dx))) fun b h3 h4 => by rw [upd_ne h3, upd_ne h4]
      rw [← e4]
      refine hp (some dx) w3 (e1.trans est) o3 s3 ⟨[(fld, v)], by rw [e4, upd_same], f3, rfl, ?_⟩
      rw [e3, e2]
      have l : Le (w1.more a (exo a C none)).F w'.F := st'.le
      exact .cons (rv.mono l st'.pre) .nil
theorem ms_raise2 {X : Cx} {E : XK} {CX : CXT} {D C fI : Addr} {f1 f2 slf x1n x2n x : Str} {g : Sl → Option M.D} {k : Nat} {fd : FuncData} {e e' : Expr} {p cpos pos : Pos} {fs : FA} (hc : X.calm = true) (tk : Takes X fun c d _ H => E c d H) (T : SupC X.K D C) (hno1 : PySem.W.findIn X.K (.ref C) f1 = some none) (hno2 : PySem.W.findIn X.K (.ref C) f2 = some none) (iC : PySem.W.findIn X.K (.ref C) "__init__" = some (some (.ref fI)))
    (tI : PySem.W.typeIn X.K (.ref fI) = some (.type "function")) (F1 : FnOk X.prog X.w X.K X.mg X.base CX k fI fd [slf, x1n, x2n] (spE2 X.K D f1 f2 g)) (hr : Room (k + 1) X.A) (hb : Binds X.K fd [slf, x1n, x2n] []) (hx : Passes CX X (fun _ _ _ => False)) (hm : X.mg x = some (.ref C)) (ha : MA X E [e, e'] fs) (hg : Gl X x := by rfl)
    (hdb : (x == ("__debug__" : Str)) = false := by decide) (he : starEach [e, e'] X.env = (false, eval e X.env) :: starEach [e'] X.env := by rfl) (hpl : (backTo cpos (starEach [e'] X.env)).any (·.1) = false := by rfl) :
    MS X E (.Raise (some (.Call (.Name x p) [e, e'] [] cpos)) none pos) (sRaise C [f1, f2] (fun ds => g (none :: (ds.map some ++ [none]))) fs) := by
  obtain ⟨t, pp, q⟩ := ha.ex
  refine ⟨_, ps_raise hc tk (pmk_oex T.oex iC tI F1 hr hb (dvs := []) .nil hx hg hm pp hdb he hpl), fun sl σ w Dd o s h => ?_⟩
  refine q sl σ w _ o s (post_bndS h fun vs ds w1 o1 s1 r hp => ?_)
  obtain ⟨⟨hl, hchk⟩, hp⟩ := postS_ite (p := ds.length = [f1, f2].length ∧ (g (none :: (ds.map some ++ [none]))).isSome = true) hp
  match ds, r, hl with
  | [d1, d2], r, _ =>
    obtain ⟨v1, v2, rfl, rv1, rv2⟩ := r.two_inv
    obtain ⟨y, hy⟩ := Option.isSome_iff_exists.mp hchk
    refine ⟨by show 2 ≤ 1000; decide, fun a na => ?_⟩
    have hFa := free_F o1 na
    have noa := free_own o1 na
    refine ⟨w1.more a (exo a C none), a, C, v1, v2, d1, d2, y, rfl, rfl, ok_more o1 hFa noa, T, hno1, hno2, upd_same, hFa, noa, rv1, rv2, hy, fun w' est o' st' dx h1 h2 => ⟨rfl, dx, [(f2, v2), (f1, v1)], ?_, upd_same, ?_, ?_⟩⟩
    · rw [upd_ne h2.symm, upd_same]
    · cases z : w1.H dx with
      | none => rfl
      | some u =>
        refine absurd h1 (st'.there dx ?_)
        show upd w1.H a (exo a C none) dx ≠ none
        rw [upd_ne h2, z]
        exact Option.some_ne_none _
    · obtain ⟨w3, e1, e2, e3, e4, o3, s3, f3⟩ := world_made (fs := [(f2, v2), (f1, v1)]) o1 na st' o' h1 h2 (H2 := upd (upd (upd w'.H dx (exd dx [(f1, v1)])) a (exo a C (some dx))) dx (exd dx [(f2, v2), (f1, v1)])) fun b h3 h4 => by rw [upd_ne h4, upd_ne h3, upd_ne h4]
      rw [← e4]
      refine hp (some dx) w3 (e1.trans est) o3 s3 ⟨[(f2, v2), (f1, v1)], by rw [e4, upd_same], f3, rfl, ?_⟩
      rw [e3, e2]
      have l : Le (w1.more a (exo a C none)).F w'.F := st'.le
      exact .cons (rv2.mono l st'.pre) (.cons (rv1.mono l st'.pre) .nil)
/-! ### defs that may raise -/
section
variable {P : Program} {w : World} {K : PySem.W.Frag} {mg : Str → Option Value} {base : Heap}
theorem takes_cx {N : List Str} {qual : Str} {scope : Scope} {f : Addr} {cdv : Value} {A : Around} {outer : List Env} {s : Shared} {H : Hp} {E : XK} : Takes (cxOf (L2.CX P w) P w K mg base N qual scope f cdv A outer s H E) fun c d _ H => E c d H := takes_of rfl rfl rfl rfl
theorem fn_mX {x qual : Str} {st : Stmt} {f : Addr} {fd : FuncData} {N ps : List Str} {k : Nat} {g : FS} (F : Fun K x qual st f fd) (S : FnScope N ps (defScope st))
    (hb : ∀ (cdv : Value) (A : Around) (outer : List Env) (s : Shared) (H : Hp) (E : XK), Room k (A.deeper (PyProof.Rows.envOfC qual (defScope st) s.heap.objs.size f cdv)) → MSs (cxOf (L2.CX P w) P w K mg base N qual (defScope st) f cdv A outer s H E) E (defBody st) g) :
    FnOk P w K mg base (L2.CX P w) (k + 1) f fd ps (spM K ps.length (mDef N.length ps.length g)) := by
  refine F.okX S (fun vs H Q E h => spM_len h) (fun cdv A outer s H vs Q E hr h => ?_)
  obtain ⟨t, p, q⟩ := (hb cdv A outer s H E hr).ex
  exact ⟨t, p, post_def q h⟩
/-- a def of the text that may raise, as a caller has it -/
structure CalX (P : Program) (w : World) (K : PySem.W.Frag) (mg : Str → Option Value) (base : Heap) (k : Nat) (x : Str) (ps : List Str) (m : List D → Sto → MM D) : Prop where
  ex : ∃ (f : Addr) (fd : FuncData), FnOk P w K mg base (L2.CX P w) k f fd ps (spM K ps.length m) ∧ mg x = some (.ref f) ∧ PySem.W.keepIn K (.ref f) = true ∧ Binds K fd ps []
end
theorem me_calX {X : Cx} {E : XK} {k : Nat} {x : Str} {ps : List Str} {m c : List D → Sto → MM D} {e : Expr} {es : List Expr} {fs : FA} {p pos : Pos} (C : CalX X.prog X.w X.K X.mg X.base k x ps m) (tk : Takes X fun c d _ H => E c d H) (hc : CallF X.K E ps.length m c) (hr : Room k X.A) (ha : MA X E (e :: es) fs) (hg : Gl X x := by rfl) (hdb : (x == ("__debug__" : Str)) = false := by decide)
    (he : starEach (e :: es) X.env = (false, eval e X.env) :: starEach es X.env := by rfl) (hpl : (backTo pos (starEach es X.env)).any (·.1) = false := by rfl) : ME X E (.Call (.Name x p) (e :: es) [] pos) (mCall c fs) := by
  obtain ⟨f, fd, F, h1, h2, h3⟩ := C.ex
  exact me_call F hc hr h1 h2 h3 (fun pins σ H s e s' I h => passes_call tk (fun _ _ _ _ h => h) pins σ H s e s' I h) ha hg hdb he hpl
/-! ### try .. except -/
/-- the reading of a body that its function says -/
def tSg (K : PySem.W.Frag) (E : XK) (g : FS) : TS := fun D σ H => ∃ sl w, w.H = H ∧ Ok K w ∧ Slots K w sl σ ∧ PostS K E w (g sl w.st) D
theorem pss_sg {X : Cx} {E : XK} {b : List Stmt} {g : FS} (h : MSs X E b g) : PSs X b (tSg X.K E g) := by
  obtain ⟨t, p, q⟩ := h.ex
  exact ⟨fun pins s σ H D I ⟨sl, w, e, o, sl', hp⟩ => p.run pins s σ H D I (by rw [← e]; exact q sl σ w D o sl' hp)⟩
/-- what an except suite says of the error that it holds: an expression -/
abbrev FX := Exn → Option D
def xC (d : D) : FX := fun _ => some d
def xFld (ok : Addr → Bool) (f : Str) : FX := fun x => if ok x.C = true then x.fs.lookup f else none
def xNil : Exn → Option (List D) := fun _ => some []
def xCons (v : FX) (va : Exn → Option (List D)) : Exn → Option (List D) := fun x => (v x).bind fun d => (va x).map fun ds => d :: ds
def xTup (va : Exn → Option (List D)) : FX := fun x => (va x).bind fun ds => if ds.length ≤ 1000 then some (.tup ds) else none
def xIsi (isi : Addr → Option Bool) : Exn → Option Bool := fun x => isi x.C
def xAnd (va vb : Exn → Option Bool) : Exn → Option Bool := fun x => (va x).bind fun p => cond p (vb x) (some false)
def xIf (vt : Exn → Option Bool) (v1 v2 : FX) : FX := fun x => (vt x).bind fun b => cond b (v1 x) (v2 x)
structure MX (X : Cx) (i : Nat) (e : Expr) (v : FX) : Prop where
  ex : ∀ (E : XK) (a : Addr) (oe : Obj) (cls : Value) (d : Option Addr) (pn : List (Addr × Obj)), Zc cls d oe → (∃ vs, oe.data = .fields vs) → ∃ t : TE, PE (X.suite a ((a, oe) :: pn)) e t ∧
    ∀ (x : Exn) sl σ w (Q : VK), cls = .ref x.C → Ok X.K w → Slots X.K w sl σ → σ[i]? = some (some (.ref a)) → RepX X.K w x d → Post X.K E (rD X.K) w (lift (v x) w.st) Q → t σ w.H Q
structure MXT (X : Cx) (i : Nat) (e : Expr) (v : Exn → Option Bool) : Prop where
  ex : ∀ (E : XK) (a : Addr) (oe : Obj) (cls : Value) (d : Option Addr) (pn : List (Addr × Obj)), Zc cls d oe → (∃ vs, oe.data = .fields vs) → ∃ t : TT, PT (X.suite a ((a, oe) :: pn)) e t ∧
    ∀ (x : Exn) sl σ w (Q : Bool → Hp → Prop), cls = .ref x.C → Ok X.K w → Slots X.K w sl σ → σ[i]? = some (some (.ref a)) → RepX X.K w x d → Post X.K E rB w (lift (v x) w.st) Q → t σ w.H Q
structure MXA (X : Cx) (i : Nat) (es : List Expr) (v : Exn → Option (List D)) : Prop where
  ex : ∀ (E : XK) (a : Addr) (oe : Obj) (cls : Value) (d : Option Addr) (pn : List (Addr × Obj)), Zc cls d oe → (∃ vs, oe.data = .fields vs) → ∃ t : TA, PA (X.suite a ((a, oe) :: pn)) es t ∧
    ∀ (x : Exn) sl σ w (Q : List V → Hp → Prop), cls = .ref x.C → Ok X.K w → Slots X.K w sl σ → σ[i]? = some (some (.ref a)) → RepX X.K w x d → Post X.K E (rA X.K) w (lift (v x) w.st) Q → t σ w.H Q
/-- a suite that hands something back on every way -/
structure MXS (X : Cx) (i : Nat) (b : List Stmt) (v : FX) : Prop where
  ex : ∀ (E : XK) (a : Addr) (oe : Obj) (cls : Value) (d : Option Addr) (pn : List (Addr × Obj)), Zc cls d oe → (∃ vs, oe.data = .fields vs) → ∃ t : TS, PSs (X.suite a ((a, oe) :: pn)) b t ∧
    ∀ (x : Exn) sl σ w (D : Ends), cls = .ref x.C → Ok X.K w → Slots X.K w sl σ → σ[i]? = some (some (.ref a)) → RepX X.K w x d → Post X.K E (rD X.K) w (lift (v x) w.st) (fun v H => D.rt v H) → t D σ w.H
section
variable {X : Cx} {i : Nat} {e : Expr} {es : List Expr} {v : FX} {va : Exn → Option (List D)} {vt : Exn → Option Bool} {pos p p1 p2 : Pos}
theorem mx_c {d : D} {v0 : V} (h : ∀ X : Cx, PE X e (tC v0)) (hr : ∀ F α K, Rep K F α v0 d) : MX X i e (xC d) := ⟨fun E a oe cls dd pn hz hf => ⟨_, h _, fun x sl σ w Q hc o s hi hx hp => post_ret o (hr _ _ _) hp⟩⟩
theorem mx_str {x : Str} {j} : MX X i (.Constant (.str x) j pos) (xC (.str x)) := mx_c (fun _ => pe_str) fun _ _ _ => .str x
theorem mx_int {x : Int} {j} : MX X i (.Constant (.int x) j pos) (xC (.int x)) := mx_c (fun _ => pe_int) fun _ _ _ => .int x
theorem mx_bl {x : Bool} {j} : MX X i (.Constant (.bool x) j pos) (xC (.bl x)) := mx_c (fun _ => pe_bl) fun _ _ _ => .bl x
theorem mx_non {j} : MX X i (.Constant .none j pos) (xC .non) := mx_c (fun _ => pe_non) fun _ _ _ => .non
theorem look_fs {K : PySem.W.Frag} {F : Hp} {α : List Addr} {f : Str} {d : D} : ∀ {vs : List (Str × V)} {fs : List (Str × D)}, vs.map (·.1) = fs.map (·.1) → Reps K F α (vs.map (·.2)) (fs.map (·.2)) → fs.lookup f = some d → ∃ v, vs.lookup f = some v ∧ Rep K F α v d
  | [], [], _, _, h => by cases h
  | [], _ :: _, e, _, _ => by cases e
  | _ :: _, [], e, _, _ => by cases e
  | (k1, v1) :: r, (k2, d2) :: q, e, rs, h => by
    injection e with e1 e2
    have e1 : k1 = k2 := e1
    subst e1
    cases rs with
    | cons r1 r2 =>
      cases z : f == k1 with
      | true =>
        have h : (match f == k1 with
          | true => some d2
          | false => q.lookup f) = some d := h
        rw [z] at h
        cases h
        refine ⟨v1, ?_, r1⟩
        show (match f == k1 with
          | true => some v1
          | false => r.lookup f) = some v1
        rw [z]
      | false =>
        have h : (match f == k1 with
          | true => some d2
          | false => q.lookup f) = some d := h
        rw [z] at h
        obtain ⟨v, h1, h2⟩ := look_fs e2 r2 h
        refine ⟨v, ?_, h2⟩
        show (match f == k1 with
          | true => some v1
          | false => r.lookup f) = some v
        rw [z]; exact h1
/-- e.f -/
theorem mx_fld {n f : Str} {ok : Addr → Bool} (hN : X.N[i]? = some n) (hv : Vis X.env.scope n) (hok : ∀ C, ok C = true → XfC X.K C ∧ PySem.W.findIn X.K (.ref C) f = some none) (hd : (n == ("__debug__" : Str)) = false := by decide) (hcd : (n == ("__classdict__" : Str)) = false := by decide)
    (hb : attributeBase (.Name n p) f X.env (eval (.Name n p) X.env) = eval (.Name n p) X.env := by rfl) : MX X i (.Attribute (.Name n p) f pos) (xFld ok f) := ⟨fun E a oe cls dd pn hz hf => by
  by_cases hcl : ∃ C, cls = .ref C ∧ ok C = true
  · obtain ⟨C, rfl, hC⟩ := hcl
    obtain ⟨T, hno⟩ := hok C hC
    refine ⟨_, pe_xf T hno hz hf (pe_var (X := X.suite a ((a, oe) :: pn)) hN hv hd hcd) hb, fun x sl σ w Q hc o s hi hx hp => ?_⟩
    have hxC : x.C = C := by injection hc with hc; exact hc.symm
    have hp : Post X.K E (rD X.K) w (lift (if ok x.C = true then x.fs.lookup f else none) w.st) Q := hp
    rw [hxC, if_pos hC] at hp
    cases q : x.fs.lookup f with
    | none => rw [q] at hp; exact hp.elim
    | some d =>
      rw [q] at hp
      refine ⟨.ref a, hi, rfl, rfl, ?_⟩
      cases dd with
      | none => rw [show x.fs = [] from hx] at q; cases q
      | some dd =>
        obtain ⟨vs, h1, h2, h3, h4⟩ := hx
        obtain ⟨v, e1, e2⟩ := look_fs h3 h4 q
        exact ⟨dd, vs, v, rfl, h1, e1, post_ret o e2 hp⟩
  · refine ⟨fun _ _ _ => False, ⟨fun _ _ _ _ _ _ z => z.elim⟩, fun x sl σ w Q hc o s hi hx hp => ?_⟩
    have : ¬ ok x.C = true := fun z => hcl ⟨x.C, hc, z⟩
    have hp : Post X.K E (rD X.K) w (lift (if ok x.C = true then x.fs.lookup f else none) w.st) Q := hp
    rw [if_neg this] at hp
    exact hp⟩
theorem mxa_nil : MXA X i [] xNil := ⟨fun E a oe cls dd pn hz hf => ⟨_, pa_nil, fun x sl σ w Q hc o s hi hx hp => post_ret o .nil hp⟩⟩
theorem mxa_cons (he : MX X i e v) (hr : MXA X i es va) (hs : starEach (e :: es) X.env = (false, eval e X.env) :: starEach es X.env := by rfl) : MXA X i (e :: es) (xCons v va) := ⟨fun E a oe cls dd pn hz hf => by
  obtain ⟨t, p, q⟩ := he.ex E a oe cls dd pn hz hf
  obtain ⟨t', p', q'⟩ := hr.ex E a oe cls dd pn hz hf
  refine ⟨_, pa_cons p p' hs, fun x sl σ w Q hc o s hi hx hp => ?_⟩
  unfold xCons at hp
  cases h1 : v x with
  | none => rw [h1] at hp; exact hp.elim
  | some d =>
    cases h2 : va x with
    | none => rw [h1, h2] at hp; exact hp.elim
    | some ds =>
      rw [h1, h2] at hp
      refine q x sl σ w _ hc o s hi hx ?_
      rw [h1]
      intro u w1 e1 o1 s1 r1
      refine q' x sl σ w1 _ hc o1 (s.step s1) hi (repx_step o s1 hx) ?_
      rw [h2]
      intro us w2 e2 o2 s2 r2
      exact hp (u :: us) w2 (e2.trans e1) o2 (s1.trans s2) (.cons (r1.mono s2.le s2.pre) r2)⟩
theorem mx_tup {x1} (h : MXA X i es va) : MX X i (.Tuple es x1 pos) (xTup va) := ⟨fun E a oe cls dd pn hz hf => by
  obtain ⟨t, p, q⟩ := h.ex E a oe cls dd pn hz hf
  refine ⟨_, pe_tup p, fun x sl σ w Q hc o s hi hx hp => ?_⟩
  unfold xTup at hp
  cases h1 : va x with
  | none => rw [h1] at hp; exact hp.elim
  | some ds =>
    rw [h1] at hp
    refine q x sl σ w _ hc o s hi hx ?_
    rw [h1]
    intro us w1 e1 o1 s1 r1
    have hp : Post X.K E (rD X.K) w (lift (if ds.length ≤ 1000 then some (.tup ds) else none) w.st) Q := hp
    by_cases z : ds.length ≤ 1000
    · rw [if_pos z] at hp
      exact ⟨by rw [r1.length]; exact Nat.le_trans z five, fun pp np => post_mkT (E := E) o1 (Post.step s1 (by rw [e1]; exact hp)) np r1⟩
    · rw [if_neg z] at hp
      exact hp.elim⟩
/-- isinstance(e, c) -/
def rIsX (K : PySem.W.Frag) (C a : Addr) (d : Option Addr) : List V → Hp → VK → Prop := fun xs H Q => ∃ (c : V) (cv : Value) (b : Bool), xs = [.ref a, c] ∧ (∀ u, RelV c u → u = cv) ∧ PySem.W.kitOne K (.ref C) cv = some b ∧ (d = none ∨ ∃ dd vs, d = some dd ∧ H dd = some (.xd vs)) ∧ Q (.bl b) H
theorem call_isX {a C : Addr} {d : Option Addr} {oe : Obj} {pn : List (Addr × Obj)} (T : ExcC X.K C) (hz : Zc (.ref C) d oe) (hf : ∃ vs, oe.data = .fields vs) : CallR (X.suite a ((a, oe) :: pn)) (.builtin "isinstance") (rIsX X.K C a d) := by
  intro pins s σ H xs us Q I r h
  obtain ⟨c, cv, b, rfl, hcv, e, hd, q⟩ := h
  cases r with
  | cons rx rr =>
    cases rr with
    | cons rt rr =>
      cases rr
      cases rx
      have ec := hcv _ rt
      subst ec
      obtain ⟨hget, _⟩ := I.pin (a, oe) (List.mem_append.mpr (.inl List.mem_cons_self))
      obtain ⟨vs, hv⟩ := hf
      have J : ∃ od, PySem.W.InstAt s.heap a oe C od := by
        rcases hd with rfl | ⟨dd, fs, rfl, hdd⟩
        · obtain ⟨oc, od, oda, osl⟩ := oe
          obtain ⟨h1, h2⟩ := hz
          dsimp only at h1 h2 hv
          subst h1 h2 hv
          exact ⟨none, hget, rfl, rfl, trivial⟩
        · have hx : ObjOk X.prog X.w H s.heap dd (.xd fs) := I.hok dd _ hdd
          obtain ⟨mA, hns, hr⟩ := hx
          obtain ⟨od, ho, hl⟩ := lookIn_ns hns
          exact ⟨some od, hget, hz.1, by unfold PySem.W.notCls; rw [hv] <;> rfl, by rw [hz.2]; exact ho⟩
      obtain ⟨od, J⟩ := J
      have hcl : (PySem.W.clsIn X.K C).isSome = true := by
        obtain ⟨cd, hc, _⟩ := PySem.W.any_some T.hd
        rw [hc]; rfl
      exact PySem.W.kia_one (PySem.W.kitx_exc (od := od) hcl T.hg T.hk T.hs T.ha T.hn T.ht T.hm) I.kIn J e (fun z => nomatch z) fun tk => ⟨.bl b, H, I.kept (t' := tk) fun _ _ z => z, rfl, q⟩
theorem mxt_isi {n c : Str} {isi : Addr → Option Bool} {cv0 : V} {u : Value} (hN : X.N[i]? = some n) (hv : Vis X.env.scope n) (hisi : ∀ C b, isi C = some b → PySem.W.kitOne X.K (.ref C) u = some b ∧ ExcC X.K C) (hm : X.mg "isinstance" = none) (hg : Gl X "isinstance")
    (hcv : ∀ (a : Addr) (pn : List (Addr × Obj)), PE (X.suite a pn) (.Name c p2) (tC cv0)) (hu : ∀ w, RelV cv0 w → w = u) (hd : (n == ("__debug__" : Str)) = false := by decide) (hcd : (n == ("__classdict__" : Str)) = false := by decide)
    (he : starEach [.Name n p1, .Name c p2] X.env = (false, eval (.Name n p1) X.env) :: starEach [.Name c p2] X.env := by rfl) (he2 : starEach [.Name c p2] X.env = (false, eval (.Name c p2) X.env) :: starEach [] X.env := by rfl) (hpl : (backTo pos (starEach [.Name c p2] X.env)).any (·.1) = false := by rfl)
    (ht : ∀ whole, isTrue (.Call (.Name "isinstance" p) [.Name n p1, .Name c p2] [] pos) X.env whole = (do let v ← whole; standAt (Expr.pos (.Call (.Name "isinstance" p) [.Name n p1, .Name c p2] [] pos)); holding [v] (truthy v)) := by intro _; rfl) :
    MXT X i (.Call (.Name "isinstance" p) [.Name n p1, .Name c p2] [] pos) (xIsi isi) := ⟨fun E a oe cls dd pn hz hf => by
  by_cases hcl : ∃ C b, cls = .ref C ∧ isi C = some b
  · obtain ⟨C, b, rfl, hC⟩ := hcl
    obtain ⟨hk, T⟩ := hisi C b hC
    have P : PE (X.suite a ((a, oe) :: pn)) (.Call (.Name "isinstance" p) [.Name n p1, .Name c p2] [] pos) _ := pe_callB (call_isX T hz hf) hg hm (by decide +kernel) (pa_cons (pe_var (X := X.suite a ((a, oe) :: pn)) hN hv hd hcd) (pa_cons (hcv a ((a, oe) :: pn)) pa_nil he2) he) (by decide) (by decide) he hpl
    refine ⟨_, pt_truth P ht, fun x sl σ w Q hc o s hi hx hp => ?_⟩
    have hxC : x.C = C := by injection hc with hc; exact hc.symm
    have hp : Post X.K E rB w (lift (isi x.C) w.st) Q := hp
    rw [hxC, hC] at hp
    refine ⟨.ref a, hi, cv0, u, b, rfl, hu, hk, ?_, b, truD_ok (d := .bl b) o (.bl b) rfl, post_ret (rp := rB) o rfl hp⟩
    cases dd with
    | none => exact .inl rfl
    | some dd =>
      obtain ⟨vs, h1, _⟩ := hx
      exact .inr ⟨dd, vs, rfl, h1⟩
  · refine ⟨fun _ _ _ => False, ⟨fun _ _ _ _ _ _ z => z.elim⟩, fun x sl σ w Q hc o s hi hx hp => ?_⟩
    have hp : Post X.K E rB w (lift (isi x.C) w.st) Q := hp
    cases q : isi x.C with
    | none => rw [q] at hp; exact hp
    | some b => exact (hcl ⟨x.C, b, hc, q⟩).elim⟩
theorem mxs_ret {pr : Pos} (he : MX X i e v) : MXS X i [.Return (some e) pr] v := ⟨fun E a oe cls dd pn hz hf => by
  obtain ⟨t, p, q⟩ := he.ex E a oe cls dd pn hz hf
  exact ⟨_, pss_one (ps_ret p), fun x sl σ w D hc o s hi hx hp => q x sl σ w _ hc o s hi hx hp⟩⟩
theorem mxs_if {pr : Pos} {s1 rest : List Stmt} {v1 v2 : FX} {c : Expr} (hc : MXT X i c vt) (h1 : MXS X i s1 v1) (h2 : MXS X i rest v2) : MXS X i (.If c s1 [] pr :: rest) (xIf vt v1 v2) := ⟨fun E a oe cls dd pn hz hf => by
  obtain ⟨t, p, q⟩ := hc.ex E a oe cls dd pn hz hf
  obtain ⟨t1, p1, q1⟩ := h1.ex E a oe cls dd pn hz hf
  obtain ⟨t2, p2, q2⟩ := h2.ex E a oe cls dd pn hz hf
  refine ⟨_, pss_cons (ps_if p p1 pss_nil) p2, fun x sl σ w D hcc o s hi hx hp => ?_⟩
  unfold xIf at hp
  cases hb : vt x with
  | none => rw [hb] at hp; exact hp.elim
  | some b =>
    rw [hb] at hp
    refine q x sl σ w _ hcc o s hi hx ?_
    rw [hb]
    intro k w1 e1 o1 s1 r1
    obtain rfl : k = b := r1
    cases k with
    | true => exact q1 x sl σ w1 _ hcc o1 (s.step s1) hi (repx_step o s1 hx) (Post.step s1 (by rw [e1]; exact hp))
    | false => exact q2 x sl σ w1 _ hcc o1 (s.step s1) hi (repx_step o s1 hx) (Post.step s1 (by rw [e1]; exact hp))⟩
theorem mxt_and {a b : Expr} {va vb : Exn → Option Bool} (ha : MXT X i a va) (hb : MXT X i b vb) : MXT X i (.BoolOp .And [a, b] pos) (xAnd va vb) := ⟨fun E ad oe cls dd pn hz hf => by
  obtain ⟨t, p, q⟩ := ha.ex E ad oe cls dd pn hz hf
  obtain ⟨u, p', q'⟩ := hb.ex E ad oe cls dd pn hz hf
  refine ⟨_, (pw_and p (pw_and1 p')).pt, fun x sl σ w Q hc o s hi hx hp => ?_⟩
  unfold xAnd at hp
  cases h1 : va x with
  | none => rw [h1] at hp; exact hp.elim
  | some k =>
    rw [h1] at hp
    refine q x sl σ w _ hc o s hi hx ?_
    rw [h1]
    intro k' w1 e1 o1 s1 r1
    obtain rfl : k' = k := r1
    cases k' with
    | true => exact (if_pos rfl).mpr (q' x sl σ w1 _ hc o1 (s.step s1) hi (repx_step o s1 hx) (Post.step s1 (by rw [e1]; exact hp)))
    | false => exact (if_neg Bool.false_ne_true).mpr (hp false w1 e1 o1 s1 rfl)⟩
end
/-! the statement -/
def sTry (exm : Addr → Bool) (g : FS) (h : FX) : FS := fun sl st => match g sl st with
  | some (.exc e st) => if exm e.C = true then lift ((h e).map .rt) st else none
  | r => r
/-- what the body's errors are wished to be -/
def wishOf (n : Nat) (W : WX) : XK := fun c d H => ∀ σ : St, σ.length = n → W c d σ H
theorem takes_wish {X : Cx} {W : WX} (tk : Takes X W) : Takes X fun c d _ H => wishOf X.N.length W c d H := fun u s' ⟨a, B, sI, pins, σ, H, cls, d, e, I, nb, up, sky, na, os, ag, w⟩ => tk u s' ⟨a, B, sI, pins, σ, H, cls, d, e, I, nb, up, sky, na, os, ag, w σ I.len⟩
theorem ms_try {X : Cx} {E : XK} {x n : Str} {c : Value} {i : Nat} {body suite : List Stmt} {b₀ : Stmt} {np pos pos' : Pos} {exm : Addr → Bool} {g : FS} {h : FX} (hs : X.stack = X.env :: X.outer) (hf : X.env.frame = some X.env.locals) (hN : X.N.Nodup) (hi : X.N[i]? = some n) (hln : X.env.kindOf n = some .local) (hc : Names X x c)
    (hexm : ∀ C, exm C = true → PySem.W.exmOne X.K (.ref C) c = some true)
    (hb : ∀ (E' : XK) (pn : List (Addr × Obj)) (xe : Value → Shared → Prop), Takes (X.tr pn xe) (fun c d _ H => E' c d H) → MSs (X.tr pn xe) E' body g) (hsu : MXS X i (b₀ :: suite) h) :
    MS X E (.Try body [.ExceptHandler (some (.Name x np)) (some n) (b₀ :: suite) pos'] [] [] pos) (sTry exm g h) := by
  have hil : i < X.N.length := (List.getElem?_eq_some_iff.mp hi).1
  refine ⟨_, ps_try_as (tb := fun W => tSg X.K (wishOf X.N.length W) g) (ts := fun a cls d => fun D σ H => ∃ (x : Exn) (sl : Sl) (w : Ws), w.H = H ∧ cls = .ref x.C ∧ Ok X.K w ∧ Slots X.K w sl σ ∧ σ[i]? = some (some (.ref a)) ∧ RepX X.K w x d ∧ Post X.K E (rD X.K) w (lift (h x) w.st) (fun v H => D.rt v H)) hs hf hN hi hln hc takes0
    (fun W pn xe tk pass => ?_) (fun a oe cls d pn hz hff => ?_), fun sl σ w D o s hp => ?_⟩
  · exact pss_sg (X := X.tr pn xe) (hb _ pn xe (takes_wish (X := X.tr pn xe) tk))
  · obtain ⟨t, p, q⟩ := hsu.ex E a oe cls d pn hz hff
    exact ⟨fun pins s σ H D I ⟨x, sl, w, e, hcl, o, ss, hsi, hx, hp⟩ => p.run pins s σ H D I (by rw [← e]; exact q x sl σ w D hcl o ss hsi hx hp)⟩
  · refine ⟨sl, w, rfl, o, s, ?_⟩
    have hp : PostS X.K E w (match g sl w.st with
      | some (.exc e st) => if exm e.C = true then lift ((h e).map .rt) st else none
      | r => r) D := hp
    match q : g sl w.st, hp with
    | none, hp => exact hp
    | some (.ok f st), hp => exact hp
    | some (.exc e st), hp =>
      intro d w' est o' s' rx σ' hl
      obtain ⟨hx, hp⟩ := postS_ite (p := exm e.C = true) hp
      refine ⟨true, hexm _ hx, fun _ a na => ?_, fun z => by cases z⟩
      refine ⟨e, List.replicate σ'.length none, w', rfl, rfl, o', ⟨by rw [List.length_set, List.length_replicate], fun j z ez => ?_⟩, ?_, rx, ?_⟩
      · rw [List.getElem?_replicate] at ez
        split at ez <;> cases ez
      · exact List.getElem?_set_self (by rw [hl]; exact hil)
      · cases qh : h e with
        | none => rw [qh] at hp; exact hp.elim
        | some r =>
          rw [qh] at hp
          intro v w2 e2 o2 s2 r2
          exact hp w2 (e2.trans est) o2 (s'.trans s2) v r2
/-! ### the classes of a law, by name -/
structure Cs where
  C : Str → Addr
  exm : Str → Addr → Bool
  isi : Str → Addr → Option Bool
  fld : Str → Addr → Bool
section
variable {P : Program} {w : World} {K : PySem.W.Frag} {mg : Str → Option Value} {base : Heap} {cs : Cs}
structure RaiseOk1 (P : Program) (w : World) (K : PySem.W.Frag) (mg : Str → Option Value) (base : Heap) (cs : Cs) (n fld : Str) (g : Sl → Option D) : Prop where
  ex : ∃ (D fI : Addr) (fd : FuncData) (slf xn : Str), SupC K D (cs.C n) ∧ PySem.W.findIn K (.ref (cs.C n)) fld = some none ∧ PySem.W.findIn K (.ref (cs.C n)) "__init__" = some (some (.ref fI)) ∧ PySem.W.typeIn K (.ref fI) = some (.type "function") ∧ FnOk P w K mg base (L2.CX P w) 1 fI fd [slf, xn] (spE1 K D fld g) ∧ Binds K fd [slf, xn] [] ∧ mg n = some (.ref (cs.C n))
structure RaiseOk2 (P : Program) (w : World) (K : PySem.W.Frag) (mg : Str → Option Value) (base : Heap) (cs : Cs) (n f1 f2 : Str) (g : Sl → Option D) : Prop where
  ex : ∃ (D fI : Addr) (fd : FuncData) (slf x1n x2n : Str), SupC K D (cs.C n) ∧ PySem.W.findIn K (.ref (cs.C n)) f1 = some none ∧ PySem.W.findIn K (.ref (cs.C n)) f2 = some none ∧ PySem.W.findIn K (.ref (cs.C n)) "__init__" = some (some (.ref fI)) ∧ PySem.W.typeIn K (.ref fI) = some (.type "function") ∧ FnOk P w K mg base (L2.CX P w) 1 fI fd [slf, x1n, x2n] (spE2 K D f1 f2 g) ∧ Binds K fd [slf, x1n, x2n] [] ∧ mg n = some (.ref (cs.C n))
/-- an except clause's class -/
structure ExmOk (K : PySem.W.Frag) (mg : Str → Option Value) (cs : Cs) (n : Str) : Prop where
  at_ : mg n = some (.ref (cs.C n))
  ok : ∀ C, cs.exm n C = true → PySem.W.exmOne K (.ref C) (.ref (cs.C n)) = some true
structure IsiOk (K : PySem.W.Frag) (mg : Str → Option Value) (cs : Cs) (n : Str) : Prop where
  at_ : mg n = some (.ref (cs.C n))
  ok : ∀ C b, cs.isi n C = some b → PySem.W.kitOne K (.ref C) (.ref (cs.C n)) = some b ∧ ExcC K C
structure IsiOkB (K : PySem.W.Frag) (mg : Str → Option Value) (cs : Cs) (n : Str) (T : String) : Prop where
  at_ : mg n = none
  ok : ∀ C b, cs.isi n C = some b → PySem.W.kitOne K (.ref C) (.type T) = some b ∧ ExcC K C
structure FldOk (K : PySem.W.Frag) (cs : Cs) (f : Str) : Prop where
  ok : ∀ C, cs.fld f C = true → XfC K C ∧ PySem.W.findIn K (.ref C) f = some none
variable {X : Cx} {E : XK} {e e' : Expr} {p p1 p2 cpos pos : Pos} {fs : FA} {n f f1 f2 x c : Str} {g : Sl → Option D} {i : Nat}
theorem ms_raiseK1 (R : RaiseOk1 X.prog X.w X.K X.mg X.base cs n f g) (hc : X.calm = true) (tk : Takes X fun c d _ H => E c d H) (hr : Room 2 X.A) (ha : MA X E [e] fs) (hg : Gl X n := by rfl) (hdb : (n == ("__debug__" : Str)) = false := by decide) (he : starEach [e] X.env = (false, eval e X.env) :: starEach [] X.env := by rfl) (hpl : (backTo cpos (starEach [] X.env)).any (·.1) = false := by rfl) :
    MS X E (.Raise (some (.Call (.Name n p) [e] [] cpos)) none pos) (sRaise (cs.C n) [f] (fun ds => g (none :: (ds.map some ++ [none]))) fs) := by
  obtain ⟨D, fI, fd, slf, xn, h1, h2, h3, h4, h5, h6, h7⟩ := R.ex
  exact ms_raise1 hc tk h1 h2 h3 h4 h5 hr h6 passL h7 ha hg hdb he hpl
theorem ms_raiseK2 (R : RaiseOk2 X.prog X.w X.K X.mg X.base cs n f1 f2 g) (hc : X.calm = true) (tk : Takes X fun c d _ H => E c d H) (hr : Room 2 X.A) (ha : MA X E [e, e'] fs) (hg : Gl X n := by rfl) (hdb : (n == ("__debug__" : Str)) = false := by decide) (he : starEach [e, e'] X.env = (false, eval e X.env) :: starEach [e'] X.env := by rfl) (hpl : (backTo cpos (starEach [e'] X.env)).any (·.1) = false := by rfl) :
    MS X E (.Raise (some (.Call (.Name n p) [e, e'] [] cpos)) none pos) (sRaise (cs.C n) [f1, f2] (fun ds => g (none :: (ds.map some ++ [none]))) fs) := by
  obtain ⟨D, fI, fd, slf, x1n, x2n, h1, h2, h2', h3, h4, h5, h6, h7⟩ := R.ex
  exact ms_raise2 hc tk h1 h2 h2' h3 h4 h5 hr h6 passL h7 ha hg hdb he hpl
theorem ms_tryK {body suite : List Stmt} {b₀ : Stmt} {np pos' : Pos} {g : FS} {h : FX} (Mo : ExmOk X.K X.mg cs x) (hN : X.N.Nodup) (hb : ∀ (E' : XK) (pn : List (Addr × Obj)) (xe : Value → Shared → Prop), Takes (X.tr pn xe) (fun c d _ H => E' c d H) → MSs (X.tr pn xe) E' body g) (hsu : MXS X i (b₀ :: suite) h)
    (hs : X.stack = X.env :: X.outer := by rfl) (hf : X.env.frame = some X.env.locals := by rfl) (hi : X.N[i]? = some n := by rfl) (hln : X.env.kindOf n = some .local := by rfl) (hg : Gl X x := by rfl) (hdb : (x == ("__debug__" : Str)) = false := by decide) :
    MS X E (.Try body [.ExceptHandler (some (.Name x np)) (some n) (b₀ :: suite) pos'] [] [] pos) (sTry (cs.exm x) g h) := ms_try hs hf hN hi hln ⟨hg, hdb, .inl Mo.at_⟩ Mo.ok hb hsu
theorem mxt_isiK (Mo : IsiOk X.K X.mg cs c) (hm : X.mg "isinstance" = none) (hN : X.N[i]? = some n := by rfl) (hv : Vis X.env.scope n := by first | exact Or.inl rfl | exact Or.inr (Or.inl rfl) | exact Or.inr (Or.inr rfl)) (hg : Gl X "isinstance" := by rfl) (hgc : Gl X c := by rfl) (hdc : (c == ("__debug__" : Str)) = false := by decide) (hd : (n == ("__debug__" : Str)) = false := by decide) (hcd : (n == ("__classdict__" : Str)) = false := by decide)
    (he : starEach [.Name n p1, .Name c p2] X.env = (false, eval (.Name n p1) X.env) :: starEach [.Name c p2] X.env := by rfl) (he2 : starEach [.Name c p2] X.env = (false, eval (.Name c p2) X.env) :: starEach [] X.env := by rfl) (hpl : (backTo pos (starEach [.Name c p2] X.env)).any (·.1) = false := by rfl)
    (ht : ∀ whole, isTrue (.Call (.Name "isinstance" p) [.Name n p1, .Name c p2] [] pos) X.env whole = (do let v ← whole; standAt (Expr.pos (.Call (.Name "isinstance" p) [.Name n p1, .Name c p2] [] pos)); holding [v] (truthy v)) := by intro _; rfl) :
    MXT X i (.Call (.Name "isinstance" p) [.Name n p1, .Name c p2] [] pos) (xIsi (cs.isi c)) := mxt_isi (cv0 := .ref (cs.C c)) hN hv Mo.ok hm hg (fun a pn => pe_glob (X := X.suite a pn) hgc Mo.at_ rfl hdc) (fun w h => h) hd hcd he he2 hpl ht
theorem mxt_isiB {T : String} (Mo : IsiOkB X.K X.mg cs c T) (hm : X.mg "isinstance" = none) (hv0 : bootBuiltins c = some (.type T)) (hnn : c ≠ "__name__" := by decide) (hN : X.N[i]? = some n := by rfl) (hv : Vis X.env.scope n := by first | exact Or.inl rfl | exact Or.inr (Or.inl rfl) | exact Or.inr (Or.inr rfl)) (hg : Gl X "isinstance" := by rfl) (hgc : Gl X c := by rfl) (hdc : (c == ("__debug__" : Str)) = false := by decide) (hd : (n == ("__debug__" : Str)) = false := by decide) (hcd : (n == ("__classdict__" : Str)) = false := by decide)
    (he : starEach [.Name n p1, .Name c p2] X.env = (false, eval (.Name n p1) X.env) :: starEach [.Name c p2] X.env := by rfl) (he2 : starEach [.Name c p2] X.env = (false, eval (.Name c p2) X.env) :: starEach [] X.env := by rfl) (hpl : (backTo pos (starEach [.Name c p2] X.env)).any (·.1) = false := by rfl)
    (ht : ∀ whole, isTrue (.Call (.Name "isinstance" p) [.Name n p1, .Name c p2] [] pos) X.env whole = (do let v ← whole; standAt (Expr.pos (.Call (.Name "isinstance" p) [.Name n p1, .Name c p2] [] pos)); holding [v] (truthy v)) := by intro _; rfl) :
    MXT X i (.Call (.Name "isinstance" p) [.Name n p1, .Name c p2] [] pos) (xIsi (cs.isi c)) := mxt_isi (cv0 := .ty T) hN hv Mo.ok hm hg (fun a pn => pe_bltn (X := X.suite a pn) hgc Mo.at_ hv0 rfl hnn hdc) (fun w h => h) hd hcd he he2 hpl ht
theorem mx_fldK (Mo : FldOk X.K cs f) (hN : X.N[i]? = some n := by rfl) (hv : Vis X.env.scope n := by first | exact Or.inl rfl | exact Or.inr (Or.inl rfl) | exact Or.inr (Or.inr rfl)) (hd : (n == ("__debug__" : Str)) = false := by decide) (hcd : (n == ("__classdict__" : Str)) = false := by decide)
    (hb : attributeBase (.Name n p) f X.env (eval (.Name n p) X.env) = eval (.Name n p) X.env := by rfl) : MX X i (.Attribute (.Name n p) f pos) (xFld (cs.fld f) f) := mx_fld hN hv Mo.ok hd hcd hb
end
end M
namespace M
open PySem PySem.Spec PySem.W L2
/-! ### the classes as the written part says -/
def excB (K : Frag) (C : Addr) : Bool := decide (findIn K (.ref C) "__getattribute__" = some (some (.builtin "BaseException.__getattribute__"))) && (decide (findIn K (.ref C) "__getattr__" = some none) && (decide (subIn K (.ref C) (.type "BaseException") = some true) && (hasDictIn K C && (decide (findIn K (.ref C) "__class__" = some (some (.builtin "object.__class__"))) &&
  (decide (specialIn K (.builtin "object.__class__") "__get__" = some (some (.builtin "getset_descriptor.__get__"))) && (decide (takesIn K (.builtin "object.__class__") = some true) && decide (mroIn K C (.type "object") = some true)))))))
theorem excB_iff {K : Frag} {C : Addr} : excB K C = true ↔ ExcC K C := by
  unfold excB
  simp only [Bool.and_eq_true, decide_eq_true_eq]
  exact ⟨fun ⟨a, b, c, d, e, f, g, h⟩ => ⟨a, b, c, d, e, f, g, h⟩, fun ⟨a, b, c, d, e, f, g, h⟩ => ⟨a, b, c, d, e, f, g, h⟩⟩
theorem xfB_of {K : Frag} {C : Addr} (T : ExcC K C) : xfB K C = true := by
  unfold xfB
  simp only [Bool.and_eq_true, decide_eq_true_eq]
  exact ⟨T.hg, T.hk, T.hs, T.hd⟩
def csOf (K : Frag) (l : List (Str × Addr)) (vs : List (Str × Value)) : Cs where
  C n := (l.lookup n).getD 0
  exm n c := decide (exmOne K (.ref c) (.ref ((l.lookup n).getD 0)) = some true)
  isi n c := if excB K c = true then kitOne K (.ref c) ((vs.lookup n).getD .none) else none
  fld f c := xfB K c && decide (findIn K (.ref c) f = some none)
section
variable {K : Frag} {mg : Str → Option Value} {l : List (Str × Addr)} {vs : List (Str × Value)} {n f : Str} {C G : Addr}
theorem cs_exm (h : mg n = some (.ref ((l.lookup n).getD 0))) : ExmOk K mg (csOf K l vs) n := ⟨h, fun _ h => of_decide_eq_true h⟩
theorem cs_isi (h : mg n = some (.ref ((l.lookup n).getD 0))) (e : (vs.lookup n).getD .none = .ref ((l.lookup n).getD 0)) : IsiOk K mg (csOf K l vs) n := ⟨h, fun c b h => by
  have h : (if excB K c = true then kitOne K (.ref c) ((vs.lookup n).getD .none) else none) = some b := h
  split at h
  · rename_i q
    rw [e] at h
    exact ⟨h, excB_iff.mp q⟩
  · cases h⟩
theorem cs_isiB {T : String} (h : mg n = none) (e : (vs.lookup n).getD .none = .type T) : IsiOkB K mg (csOf K l vs) n T := ⟨h, fun c b h => by
  have h : (if excB K c = true then kitOne K (.ref c) ((vs.lookup n).getD .none) else none) = some b := h
  split at h
  · rename_i q
    rw [e] at h
    exact ⟨h, excB_iff.mp q⟩
  · cases h⟩
theorem cs_fld : FldOk K (csOf K l vs) f := ⟨fun c h => by
  have h : (xfB K c && decide (findIn K (.ref c) f = some none)) = true := h
  rw [Bool.and_eq_true] at h
  exact ⟨xfB_ok h.1, of_decide_eq_true h.2⟩⟩
theorem kn_exm (e : (l.lookup n).getD 0 = G) (h1 : subIn K (.ref G) (.type "BaseException") = some true) (h2 : hasDictIn K G = true) (h3 : typeIn K (.ref G) = some (.type "type")) (h4 : subIn K (.ref C) (.ref G) = some true) : (csOf K l vs).exm n C = true := by
  show decide _ = true
  rw [e]
  exact decide_eq_true (exm_ref h1 h2 h3 h4)
theorem kn_isi {v : Value} {b : Bool} (T : ExcC K C) (e : (vs.lookup n).getD .none = v) (h : kitOne K (.ref C) v = some b) : (csOf K l vs).isi n C = some b := by
  show (if excB K C = true then kitOne K (.ref C) ((vs.lookup n).getD .none) else none) = some b
  rw [if_pos (excB_iff.mpr T), e, h]
theorem kn_fld (T : ExcC K C) (h : findIn K (.ref C) f = some none) : (csOf K l vs).fld f C = true := by
  show (xfB K C && decide _) = true
  rw [xfB_of T, decide_eq_true h]; rfl
theorem kit_self : kitOne K (.ref C) (.ref C) = some true := by
  unfold kitOne
  rw [if_pos (by simp)]
theorem kit_bt {T : String} {b : Bool} (hm : kitMeta T = true) (h : subIn K (.ref C) (.type T) = some b) : kitOne K (.ref C) (.type T) = some b := by
  unfold kitOne
  rw [if_neg (by simp)]
  show (if kitMeta T = true then subIn K (.ref C) (.type T) else none) = some b
  rw [if_pos hm, h]
theorem kit_rc {c : Addr} {b : Bool} (ne : C ≠ c) (hd : hasDictIn K c = true) (ty : typeIn K (.ref c) = some (.type "type")) (h : subIn K (.ref C) (.ref c) = some b) : kitOne K (.ref C) (.ref c) = some b := by
  obtain ⟨cd, hc, _⟩ := any_some hd
  unfold kitOne
  rw [if_neg (by simpa using ne)]
  show (if ((clsIn K c).isSome && typeIn K (.ref c) == some (.type "type")) = true then subIn K (.ref C) (.ref c) else none) = some b
  rw [if_pos (by rw [hc, ty] <;> rfl), h]
end
end M

/-! Rules for texts, and in / not in. -/
namespace M
open PySem L2
section
variable {X : Cx} {E : XK} {K : PySem.W.Frag} {a b c e o : Expr} {es rest : List Expr} {fa fb fc : FE} {fs : FA} {ta tb tc : TE} {pos apos cpos : Pos} {T id : String} {name : Str}
/-! ### in, not in -/
def scDs : List D → Option (List V)
  | [] => some []
  | d :: r => match scD d, scDs r with
    | some v, some vs => some (v :: vs)
    | _, _ => none
theorem scDs_rep {F : Hp} {α : List Addr} : ∀ {vs : List V} {ds : List D} {ws : List V}, Reps K F α vs ds → scDs ds = some ws → vs = ws ∧ ws.all flatV = true
  | _, _, _, .nil, h => by cases h; exact ⟨rfl, rfl⟩
  | _, _, ws, .cons (d := d) (ds := ds) r rs, h => by
    have h : (match scD d, scDs ds with
      | some v, some vs => some (v :: vs)
      | _, _ => none) = some ws := h
    cases q : scD d with
    | none => rw [q] at h; cases h
    | some v =>
      cases q2 : scDs ds with
      | none => rw [q, q2] at h; cases h
      | some vs =>
        rw [q, q2] at h
        cases h
        obtain ⟨e1, e2⟩ := scDs_rep rs q2
        refine ⟨by rw [scD_rep r q, e1], ?_⟩
        rw [List.all_cons, e2, Bool.and_true]
        cases d <;> cases q <;> rfl
theorem scD_flat {d : D} {v : V} (h : scD d = some v) : flatV v = true := by
  cases d <;> cases h <;> rfl
def ng (n b : Bool) : Bool := if n then !b else b
def seqD (st : Sto) : D → Option (List D)
  | .tup ds => some ds
  | d => lstOf st d
theorem seqD_rep {w : Ws} (o : Ok K w) {v : V} {d : D} {ds : List D} (r : Rep K w.F w.al v d) (h : seqD w.st d = some ds) : ∃ p xs, v = .ref p ∧ (SqL K w.H p xs ∨ SqT K w.H p xs) ∧ Reps K w.F w.al xs ds := by
  have viaL : lstOf w.st d = some ds → ∃ p xs, v = .ref p ∧ (SqL K w.H p xs ∨ SqT K w.H p xs) ∧ Reps K w.F w.al xs ds := fun h => by
    obtain ⟨p, xs, e, hx, rs⟩ := lstOf_rep o r h
    exact ⟨p, xs, e, .inl hx, rs⟩
  cases d with
  | tup es =>
    cases h
    obtain ⟨p, xs, e, f, rs⟩ := r.tup_inv
    exact ⟨p, xs, e, .inr (SqT.of (o.sub _ _ f)), rs⟩
  | _ => exact viaL h
def gIn (n : Bool) (st : Sto) (x y : D) : MM D := match y with
  | .str z => match x with
    | .str c => match c.cps.toList with
      | [k] => ret (.bl (ng n (decide (k ∈ z.cps.toList)))) st
      | _ => ret (.bl (ng n (!(Builtin.Str.occurrences z c 0 z.length 1).isEmpty))) st
    | _ => none
  | y => match seqD st y, scD x with
    | some ds, some v => match scDs ds with
      | some vs => ret (.bl (ng n (inV v vs))) st
      | none => none
    | _, _ => none
abbrev rInA (K : PySem.W.Frag) (n : Bool) : R2 := fun x y H Q => (∃ (c : Nat) (z : Str), x = .str ⟨#[c]⟩ ∧ y = .str z ∧ Q (.bl (ng n (decide (c ∈ z.cps.toList)))) H) ∨ (∃ i j, x = .str i ∧ y = .str j ∧ Q (.bl (ng n (!(Builtin.Str.occurrences j i 0 j.length 1).isEmpty))) H) ∨ rIn K n x y H Q
theorem opr_in : OpR X (compareOp .In) (rInA X.K false) := op_in_sign.or (op_in_str.or op_in_seq)
theorem opr_notin : OpR X (compareOp .NotIn) (rInA X.K true) := op_notIn_sign.or (op_notin_str.or op_notIn_seq)
theorem rf_in (n : Bool) : Rf2 K E (rInA K n) (gIn n) := fun x y dx dy w Q o rx ry hp => by
  have viaS : (match seqD w.st dy, scD dx with
    | some ds, some v => match scDs ds with
      | some vs => ret (D.bl (ng n (inV v vs))) w.st
      | none => none
    | _, _ => none) = gIn n w.st dx dy → rInA K n x y w.H Q := fun e => by
    rw [← e] at hp
    cases h1 : seqD w.st dy with
    | none => simp only [h1] at hp; exact hp.elim
    | some ds =>
      cases h2 : scD dx with
      | none => simp only [h1, h2] at hp; exact hp.elim
      | some v =>
        cases h3 : scDs ds with
        | none => simp only [h1, h2, h3] at hp; exact hp.elim
        | some vs =>
          simp only [h1, h2, h3] at hp
          obtain ⟨p, xs, rfl, hx, rs⟩ := seqD_rep o ry h1
          obtain ⟨rfl, hf⟩ := scDs_rep rs h3
          have ex := scD_rep rx h2
          subst ex
          exact .inr (.inr ⟨p, xs, rfl, hx, scD_flat h2, hf, post_ret o (.bl _) hp⟩)
  cases dy with
  | str z =>
    cases dx with
    | str c =>
      have hp : Post K E (rD K) w (match c.cps.toList with
        | [k] => ret (D.bl (ng n (decide (k ∈ z.cps.toList)))) w.st
        | _ => ret (D.bl (ng n (!(Builtin.Str.occurrences z c 0 z.length 1).isEmpty))) w.st) Q := hp
      split at hp
      · rename_i k hk
        refine .inl ⟨k, z, ?_, ry.str_inv, post_ret o (.bl _) hp⟩
        rw [rx.str_inv]
        have : c = ⟨#[k]⟩ := by
          obtain ⟨cc⟩ := c
          have hk : cc.toList = [k] := hk
          have : cc = #[k] := by
            rw [← Array.toArray_toList (xs := cc), hk]
          rw [this]
        rw [this]
      · exact .inr (.inl ⟨c, z, rx.str_inv, ry.str_inv, post_ret o (.bl _) hp⟩)
    | _ => exact hp.elim
  | _ => exact viaS rfl
/-! ### x += text -/
def gAddS : Sto → D → D → MM D := fun st x y => match x, y with
  | .str i, .str j => if i.length + j.length ≤ sizeLine then ret (.str (i ++ j)) st else none
  | _, _ => none
abbrev tAddS : TIp := fun x y H Q => ∃ i j, x = .str i ∧ y = .str j ∧ i.length + j.length ≤ sizeLine ∧ Q (.str (i ++ j)) H
theorem ip_addS : PIp X .Add tAddS := iop_add_str
theorem rip_addS : RfIp K E tAddS gAddS := fun x y dx dy w Q o rx ry hp => by
  unfold gAddS at hp
  split at hp
  · obtain ⟨h1, hp⟩ := post_ite hp
    exact ⟨_, _, rx.str_inv, ry.str_inv, h1, post_ret o (.str _) hp⟩
  · exact hp.elim
/-! ### methods of texts -/
def strsOf : List D → Option (List Str)
  | [] => some []
  | d :: r => match d, strsOf r with
    | .str i, some is => some (i :: is)
    | _, _ => none
theorem strsOf_rep {F : Hp} {α : List Addr} : ∀ {vs : List V} {ds : List D} {is : List Str}, Reps K F α vs ds → strsOf ds = some is → vs = is.map V.str
  | _, _, _, .nil, h => by cases h; rfl
  | _, _, is, .cons (v := v) (d := d) (vs := vs) (ds := ds) r rs, h => by
    cases d with
    | str i =>
      have h' : (match strsOf ds with
        | some is => some (i :: is)
        | none => none) = some is := by
        have : strsOf (.str i :: ds) = (match D.str i, strsOf ds with
          | .str i, some is => some (i :: is)
          | _, _ => none) := rfl
        rw [this] at h
        cases q : strsOf ds with
        | none => rw [q] at h; cases h
        | some is2 => rw [q] at h; exact h
      cases q : strsOf ds with
      | none => rw [q] at h'; cases h'
      | some is2 =>
        rw [q] at h'; cases h'
        rw [r.str_inv, strsOf_rep rs q]; rfl
    | _ => cases h
def gJoin (st : Sto) (x : D) (as : List D) : MM D := match x, as with
  | .str s, [y] => match (seqD st y).bind strsOf with
    | some ys => if (ys.map (·.length)).sum + ys.length * s.length ≤ 16777216 then ret (.str (Txt.join s ys)) st else none
    | none => none
  | _, _ => none
theorem rf_join : RfM K E (fun x xs H Q => ∃ a p, ∃ ys : List Str, x = .str a ∧ xs = [.ref p] ∧ (SqL K H p (ys.map V.str) ∨ SqT K H p (ys.map V.str)) ∧ (ys.map (·.length)).sum + ys.length * a.length ≤ 16777216 ∧ Q (.str (Txt.join a ys)) H) gJoin := fun x dx xs ds w Q o rx rs hp => by
  unfold gJoin at hp
  split at hp
  · rename_i s y
    obtain ⟨v, rfl, rv⟩ := rs.one_inv
    cases q : seqD w.st y with
    | none => rw [q] at hp; exact hp.elim
    | some es =>
      cases q2 : strsOf es with
      | none => rw [q] at hp; simp only [Option.bind_some, q2] at hp; exact hp.elim
      | some ys =>
        rw [q] at hp; simp only [Option.bind_some, q2] at hp
        obtain ⟨hz, hp⟩ := post_ite hp
        obtain ⟨p, xs, rfl, hx, rs2⟩ := seqD_rep o rv q
        rw [strsOf_rep rs2 q2] at hx
        exact ⟨s, p, ys, rx.str_inv, rfl, hx, hz, post_ret o (.str _) hp⟩
  · exact hp.elim
theorem reps_strs {F : Hp} {α : List Addr} : ∀ ys : List Str, Reps K F α (ys.map V.str) (ys.map D.str)
  | [] => .nil
  | y :: r => .cons (.str y) (reps_strs r)
def gSplit (c : Bool) (st : Sto) (x : D) (as : List D) : MM D := match x, as with
  | .str a, [.str b] => if (b.length == 0) = false ∧ a.length + 2 ≤ sizeLine then mkL c ((Txt.split a b).map .str) st else none
  | _, _ => none
theorem rf_split (c : Bool) : RfM K E (fun x xs H Q => ∃ a b, x = .str a ∧ xs = [.str b] ∧ (b.length == 0) = false ∧ a.length + 2 ≤ sizeLine ∧ rNewStrs (Txt.split a b) H Q) (gSplit c) := fun x dx xs ds w Q o rx rs hp => by
  unfold gSplit at hp
  split at hp
  · rename_i s y
    obtain ⟨v, rfl, rv⟩ := rs.one_inv
    obtain ⟨⟨h1, h2⟩, hp⟩ := post_ite (p := (y.length == 0) = false ∧ s.length + 2 ≤ sizeLine) hp
    exact ⟨s, y, rx.str_inv, by rw [rv.str_inv], h1, h2, fun p np => post_mkL o hp np (reps_strs _)⟩
  · exact hp.elim
/-- a method of a text with one text, to a text -/
def gSS (C : Str → Str → Prop) [∀ a b, Decidable (C a b)] (f : Str → Str → Str) (st : Sto) (x : D) (as : List D) : MM D := match x, as with
  | .str a, [.str b] => if C a b then ret (.str (f a b)) st else none
  | _, _ => none
theorem rf_SS {C : Str → Str → Prop} [∀ a b, Decidable (C a b)] {f : Str → Str → Str} : RfM K E (fun x xs H Q => ∃ a b, x = .str a ∧ xs = [.str b] ∧ C a b ∧ Q (.str (f a b)) H) (gSS C f) := fun x dx xs ds w Q o rx rs hp => by
  unfold gSS at hp
  split at hp
  · rename_i s y
    obtain ⟨v, rfl, rv⟩ := rs.one_inv
    obtain ⟨h1, hp⟩ := post_ite (p := C s y) hp
    exact ⟨s, y, rx.str_inv, by rw [rv.str_inv], h1, post_ret o (.str _) hp⟩
  · exact hp.elim
def gLower (st : Sto) (x : D) (as : List D) : MM D := match x, as with
  | .str a, [] => if a.length ≤ 5592405 then ret (.str (Txt.lower a)) st else none
  | _, _ => none
theorem rf_lower : RfM K E (fun x xs H Q => ∃ a, x = .str a ∧ xs = [] ∧ a.length ≤ 5592405 ∧ Q (.str (Txt.lower a)) H) gLower := fun x dx xs ds w Q o rx rs hp => by
  unfold gLower at hp
  split at hp
  · obtain ⟨h1, hp⟩ := post_ite hp
    cases rs
    exact ⟨_, rx.str_inv, rfl, h1, post_ret o (.str _) hp⟩
  · exact hp.elim
/-! ### int(x) -/
def cIntS (st : Sto) (ds : List D) : MM D := match ds with
  | [.int i] => ret (.int i) st
  | [.str a] => match PySem.intText? a with
    | some n => if a.length ≤ 640 then ret (.int n) st else none
    | none => none
  | _ => none
theorem rf_intS : RfC K E (fun xs H Q => ((∃ i, xs = [.int i] ∧ Q (.int i) H) ∨ ∃ k, xs = [.bl k] ∧ Q (.int (if k then 1 else 0)) H) ∨ ∃ a n, xs = [.str a] ∧ PySem.intText? a = some n ∧ a.length ≤ 640 ∧ Q (.int n) H) cIntS := fun xs ds w Q o r hp => by
  unfold cIntS at hp
  split at hp
  · obtain ⟨x, rfl, rx⟩ := r.one_inv
    exact .inl (.inl ⟨_, by rw [rx.int_inv], post_ret o (.int _) hp⟩)
  · rename_i a
    obtain ⟨x, rfl, rx⟩ := r.one_inv
    cases q : PySem.intText? a with
    | none => rw [q] at hp; exact hp.elim
    | some n =>
      rw [q] at hp
      obtain ⟨h1, hp⟩ := post_ite hp
      exact .inr ⟨a, n, by rw [rx.str_inv], q, h1, post_ret o (.int _) hp⟩
  · exact hp.elim
theorem call_intS : CallR X (.type "int") (fun xs H Q => ((∃ i, xs = [.int i] ∧ Q (.int i) H) ∨ ∃ k, xs = [.bl k] ∧ Q (.int (if k then 1 else 0)) H) ∨ ∃ a n, xs = [.str a] ∧ PySem.intText? a = some n ∧ a.length ≤ 640 ∧ Q (.int n) H) := call_int1.or call_int_str
end
end M
namespace M
open PySem L2
/-! ### t[lo:hi] of a tuple, not the whole -/
def gSlT (st : Sto) (x : D) (lo hi : Option Int) : MM D := match x with
  | .tup ds => if ¬ (HT.sIx ds.length 0 lo = 0 ∧ HT.sIx ds.length ds.length hi = ds.length) then mkT (cutD ds lo hi) st else none
  | _ => none
def mSlT (f : FE) (l h : FO) : FE := fun sl st => bnd (f sl st) fun x st => bnd (l sl st) fun lo st => bnd (h sl st) fun hi st => gSlT st x lo hi
theorem me_slT {X : Cx} {E : XK} {a : Expr} {fa : FE} {pos : Pos} {lo hi : Option Expr} {fl fh : FO} {p2 : Pos} (ha : ME X E a fa) (hl : MO X E lo fl) (hh : MO X E hi fh) : ME X E (.Subscript a (.Slice lo hi none p2) pos) (mSlT fa fl fh) := by
  obtain ⟨ta, p, q⟩ := ha.ex
  obtain ⟨tl, p1, q1⟩ := hl.ex
  obtain ⟨th, p2, q2⟩ := hh.ex
  refine ⟨_, pe_slice sl_tup p p1 p2, fun sl σ w Q o s h => ?_⟩
  refine q sl σ w _ o s (post_bnd h fun x dx w1 o1 s1 rx h1 => ?_)
  refine q1 sl σ w1 _ o1 (s.step s1) (post_bnd h1 fun v lo w2 o2 s2 r1 h2 => ?_)
  have r1 : v = lo := r1
  subst r1
  refine q2 sl σ w2 _ o2 ((s.step s1).step s2) (post_bnd h2 fun u hi w3 o3 s3 r2 hp => ?_)
  have r2 : u = hi := r2
  subst r2
  have rx := (rx.mono s2.le s2.pre).mono s3.le s3.pre
  cases dx with
  | tup ds =>
    obtain ⟨a, xs, rfl, f, rs⟩ := rx.tup_inv
    obtain ⟨hc, hp⟩ := post_ite (p := ¬ (HT.sIx ds.length 0 v = 0 ∧ HT.sIx ds.length ds.length u = ds.length)) hp
    exact ⟨a, xs, rfl, SqT.of (o3.sub _ _ f), by rw [rs.length]; exact hc, fun p np => post_mkT o3 hp np (rs.cut v u)⟩
  | _ => exact hp.elim
end M

/-! Texts as lists of code points. -/
namespace M
open PySem PySem.Spec L2
def T (x : Str) : List Nat := x.cps.toList
def U (l : List Nat) : Str := ⟨l.toArray⟩
theorem T_U (l : List Nat) : T (U l) = l := by unfold T U; simp
theorem U_T (x : Str) : U (T x) = x := by
  obtain ⟨a⟩ := x
  unfold T U; simp
theorem T_inj {x y : Str} (h : T x = T y) : x = y := by rw [← U_T x, ← U_T y, h]
theorem T_len (x : Str) : (T x).length = x.length := by
  obtain ⟨a⟩ := x
  show a.toList.length = a.size
  simp
theorem T_app (x y : Str) : T (x ++ y) = T x ++ T y := by
  obtain ⟨a⟩ := x
  obtain ⟨b⟩ := y
  show (a ++ b).toList = a.toList ++ b.toList
  simp
theorem T_empty : T Str.empty = [] := rfl
theorem T_cut (z : Str) (lo hi : Option Int) : T (cutS z lo hi) = ((T z).drop (HT.sIx (T z).length 0 lo)).take (HT.sIx (T z).length (T z).length hi - HT.sIx (T z).length 0 lo) := by
  rw [T_len]
  unfold T cutS; simp
theorem chrD_T (x : Str) : chrD x = (T x).map fun c => .str (U [c]) := rfl
theorem T_one (c : Nat) : T (U [c]) = [c] := T_U _
/-! joined -/
def glue (c : List Nat) : List (List Nat) → List Nat
  | [] => []
  | [x] => x
  | x :: y :: r => x ++ c ++ glue c (y :: r)
theorem T_join (s : Str) : ∀ ys : List Str, T (Str.join s ys) = glue (T s) (ys.map T)
  | [] => by rw [Str.join]; rfl
  | [x] => by rw [Str.join]; rfl
  | x :: y :: r => by
    have ih := T_join s (y :: r)
    rw [Str.join, T_app, T_app, ih]
    · rfl
    · exact fun h => by cases h
theorem T_joinT (s : Str) (ys : List Str) : T (Txt.join s ys) = glue (T s) (ys.map T) := by
  have : Txt.join s ys = Str.join s ys := StrLaws.glued_eq_join s ys
  rw [this, T_join]
theorem glue_nil : ∀ xs : List (List Nat), glue [] xs = xs.flatten
  | [] => rfl
  | [x] => by simp [glue]
  | x :: y :: r => by
    rw [glue, glue_nil (y :: r)]; simp
/-! parted at one sign -/
def spl (c : Nat) : List Nat → List (List Nat)
  | [] => [[]]
  | x :: r => if x = c then [] :: spl c r else match spl c r with
    | [] => [[x]]
    | p :: ps => (x :: p) :: ps
theorem spl_ne (c : Nat) : ∀ l, spl c l ≠ []
  | [] => by simp [spl]
  | x :: r => by
    unfold spl
    by_cases h : x = c
    · rw [if_pos h]; exact List.cons_ne_nil _ _
    · rw [if_neg h]
      cases spl c r <;> exact List.cons_ne_nil _ _
theorem spl_app (c : Nat) : ∀ (p l : List Nat), c ∉ p → spl c (p ++ c :: l) = p :: spl c l
  | [], l, _ => by simp [spl]
  | x :: p, l, h => by
    have h1 : x ≠ c := fun e => h (by rw [e]; exact List.mem_cons_self)
    show (if x = c then _ else _) = _
    rw [if_neg h1, show spl c (p.append (c :: l)) = p :: spl c l from spl_app c p l fun m => h (List.mem_cons_of_mem _ m)]
theorem spl_free (c : Nat) : ∀ p : List Nat, c ∉ p → spl c p = [p]
  | [], _ => rfl
  | x :: p, h => by
    have h1 : x ≠ c := fun e => h (by rw [e]; exact List.mem_cons_self)
    show (if x = c then _ else _) = _
    rw [if_neg h1, spl_free c p fun m => h (List.mem_cons_of_mem _ m)]
theorem spl_glue (c : Nat) : ∀ ps : List (List Nat), ps ≠ [] → (∀ p ∈ ps, c ∉ p) → spl c (glue [c] ps) = ps
  | [], h, _ => absurd rfl h
  | [p], _, h => spl_free c p (h p List.mem_cons_self)
  | p :: q :: r, _, h => by
    show spl c (p ++ [c] ++ glue [c] (q :: r)) = _
    rw [List.append_assoc]
    show spl c (p ++ c :: glue [c] (q :: r)) = _
    rw [spl_app c p _ (h p List.mem_cons_self), spl_glue c (q :: r) (List.cons_ne_nil _ _) fun x m => h x (List.mem_cons_of_mem _ m)]
theorem T_split (x : Str) (c : Nat) : (Txt.split x (U [c])).map T = spl c (T x) := by
  have h1 : Str.join (U [c]) (Txt.split x (U [c])) = x := StrLaws.join_split x (U [c])
  have h2 : ∀ p ∈ (Txt.split x (U [c])).map T, c ∉ p := fun p m => by
    rw [List.mem_map] at m
    obtain ⟨y, m, rfl⟩ := m
    exact StrLaws.split_free x c y m
  have h3 : (Txt.split x (U [c])).map T ≠ [] := fun z => by
    have z2 : Txt.split x (U [c]) = [] := List.map_eq_nil_iff.mp z
    have := StrLaws.split_free x c
    unfold Txt.split at z2
    split at z2
    · cases z2
    · split at z2
      · cases z2
      · have := PySem.Builtin.Str.partsBetween x
        revert z2
        rw [StrLaws.partsBetween_eq]
        intro z2
        generalize Builtin.Str.occurrences x (U [c]) 0 x.length (x.length + 1) = cs at z2
        cases cs <;> cases z2
  have h4 : T x = glue [c] ((Txt.split x (U [c])).map T) := by
    have e := T_join (U [c]) (Txt.split x (U [c]))
    rw [h1, T_one] at e
    exact e
  rw [h4, spl_glue c _ h3 h2]
/-! two signs side by side -/
def adj (c : Nat) : List Nat → Bool
  | [] => false
  | [_] => false
  | x :: y :: r => (x == c && y == c) || adj c (y :: r)
theorem adj_iff (c : Nat) : ∀ l : List Nat, adj c l = true ↔ ∃ i, (l.drop i).take 2 = [c, c]
  | [] => by simp [adj]
  | [x] => by
    simp only [adj, Bool.false_eq_true, false_iff, not_exists]
    intro i h
    cases i with
    | zero => simp at h
    | succ i => simp at h
  | x :: y :: r => by
    rw [adj, Bool.or_eq_true, adj_iff c (y :: r)]
    constructor
    · rintro (h | ⟨i, h⟩)
      · rw [Bool.and_eq_true, beq_iff_eq, beq_iff_eq] at h
        exact ⟨0, by simp [h.1, h.2]⟩
      · exact ⟨i + 1, h⟩
    · rintro ⟨i, h⟩
      cases i with
      | zero =>
        left
        simp at h
        simp [h.1, h.2]
      | succ i => exact .inr ⟨i, h⟩
theorem found_two (x : Str) (c : Nat) : (!(Builtin.Str.occurrences x (U [c, c]) 0 x.length 1).isEmpty) = adj c (T x) := by
  have e : (!(Builtin.Str.occurrences x (U [c, c]) 0 x.length 1).isEmpty) = true ↔ adj c (T x) = true := by
    rw [StrLaws.found_iff, adj_iff]
    have key : ∀ i, Builtin.Str.subAt x (U [c, c]) i = true ↔ ((T x).drop i).take 2 = [c, c] := fun i => by
      rw [StrLaws.subAt_eq]
      show (((T x).drop i).take 2 == T (U [c, c])) = true ↔ _
      rw [T_U, beq_iff_eq]
    constructor
    · rintro ⟨i, _, h⟩; exact ⟨i, (key i).mp h⟩
    · rintro ⟨i, h⟩
      refine ⟨i, ?_, (key i).mpr h⟩
      have := congrArg List.length h
      rw [List.length_take, List.length_drop, T_len] at this
      show i + 2 ≤ x.length
      simp at this
      omega
  cases h : adj c (T x) with
  | true => exact e.mpr h
  | false =>
    cases g : (!(Builtin.Str.occurrences x (U [c, c]) 0 x.length 1).isEmpty) with
    | true => rw [e.mp g] at h; cases h
    | false => rfl
/-! one sign off the ends -/
def offL (c : Nat) : List Nat → List Nat
  | x :: r => if x = c then r else x :: r
  | [] => []
def offR (c : Nat) (l : List Nat) : List Nat := (offL c l.reverse).reverse
theorem T_prefix (x : Str) (c : Nat) : T (Txt.removeprefix x (U [c])) = offL c (T x) := by
  rw [StrLaws.removeprefix_eq, StrLaws.subAt_eq]
  have e1 : (U [c]).length = 1 := rfl
  have e2 : x.cps.toList = T x := rfl
  have e3 : (U [c]).cps.toList = [c] := rfl
  rw [e1, e2, e3]
  cases h : T x with
  | nil =>
    rw [if_neg (by simp), h]; rfl
  | cons a r =>
    have hl : x.length = r.length + 1 := by rw [← T_len, h]; rfl
    by_cases q : a = c
    · subst q
      rw [if_pos (by simp [hl])]
      show T (U _) = _
      rw [T_U, hl]
      simp [offL]
    · rw [if_neg (by simp [q]), h]
      simp [offL, q]
theorem T_suffix (x : Str) (c : Nat) : T (Txt.removesuffix x (U [c])) = offR c (T x) := by
  rw [StrLaws.removesuffix_eq, StrLaws.subAt_eq]
  have e1 : (U [c]).length = 1 := rfl
  have e2 : x.cps.toList = T x := rfl
  have e3 : (U [c]).cps.toList = [c] := rfl
  rw [e1, e2, e3]
  unfold offR
  rcases List.eq_nil_or_concat (T x) with h | ⟨l, a, h⟩
  · have hl : x.length = 0 := by rw [← T_len, h]; rfl
    rw [if_neg (by simp [hl]), h]; rfl
  · have hl : x.length = l.length + 1 := by rw [← T_len, h]; simp
    rw [h]
    have e4 : (l.concat a).reverse = a :: l.reverse := by simp
    rw [e4]
    by_cases q : a = c
    · subst q
      rw [if_pos (by simp [hl])]
      show T (U _) = _
      rw [T_U, hl]
      simp [offL]
    · rw [if_neg (by simp [hl, q])]
      rw [h]
      simp [offL, q]
/-! orders -/
theorem one_lt (a b : Nat) : decide (T (U [a]) < T (U [b])) = decide (a < b) := by
  rw [T_one, T_one]
  by_cases h : a < b
  · rw [decide_eq_true h, decide_eq_true (by exact List.cons_lt_cons_iff.mpr (.inl h))]
  · rw [decide_eq_false h, decide_eq_false (fun z => by
      rcases List.cons_lt_cons_iff.mp z with q | ⟨_, q⟩
      · exact h q
      · cases q)]
end M

namespace M
open PySem PySem.Spec L2
theorem ens_CH {Q : D → Sto → Prop} {sl : Sl} {st : Sto} {g g' : Sto → D → D → MM D} {fa fb fc : FE} (h : Ens (fa sl st) fun x st => Ens (fb sl st) fun y st => Ens (g st x y) fun z st => ∃ k, z = .bl k ∧ (k = true → Ens (fc sl st) fun u st => Ens (g' st y u) Q) ∧ (k = false → Q (.bl false) st)) : Ens (mChain g g' fa fb fc sl st) Q :=
  ens_bnd (h.imp fun _ _ h => ens_bnd (h.imp fun _ _ h => ens_bnd (h.imp fun _ _ ⟨_, e, h⟩ => by
    subst e
    exact ens_cond (fun k => ens_bnd ((h.1 k).imp fun _ _ h => h)) fun k => ens_ret (h.2 k))))
def EnsZ {τ : Type} (m : MM τ) (Q : τ → Sto → Prop) (X : Exn → Prop) : Prop := match m with
  | some (.ok x st) => Q x st
  | some (.exc e _) => X e
  | none => False
def EnsZS (m : MM Fl) (N : Sl → Sto → Prop) (R : D → Sto → Prop) (X : Exn → Prop) : Prop := EnsZ m (fun f st => match f with
  | .nx sl => N sl st
  | .rt d => R d st
  | .bk _ => False
  | .ct _ => False) X
section
variable {τ υ : Type} {Q : τ → Sto → Prop} {X : Exn → Prop} {N : Sl → Sto → Prop} {R : D → Sto → Prop} {sl : Sl} {st : Sto}
theorem ez_of {m : MM τ} (h : Ens m Q) : EnsZ m Q X := by
  obtain ⟨x, st, rfl, q⟩ := h
  exact q
theorem ez_bnd {m : MM υ} {k : υ → Sto → MM τ} (h : EnsZ m (fun x st => EnsZ (k x st) Q X) X) : EnsZ (bnd m k) Q X := by
  match m, h with
  | some (.ok x st), h => exact h
  | some (.exc e st), h => exact h
theorem EnsZ.imp {m : MM τ} {Q' : τ → Sto → Prop} (h : EnsZ m Q X) (k : ∀ x st, Q x st → Q' x st) : EnsZ m Q' X := by
  match m, h with
  | some (.ok x st), h => exact k _ _ h
  | some (.exc e st), h => exact h
theorem ez_seq {g1 g2 : FS} (h : EnsZS (g1 sl st) (fun sl st => EnsZS (g2 sl st) N R X) R X) : EnsZS (sSeq g1 g2 sl st) N R X := by
  refine ez_bnd (EnsZ.imp h fun f st q => ?_)
  cases f with
  | nx _ => exact q
  | rt d => exact q
  | bk _ => exact q.elim
  | ct _ => exact q.elim
theorem ez_S {g : FS} (h : EnsS (g sl st) N R) : EnsZS (g sl st) N R X := by
  obtain ⟨f, s, e, q⟩ := h
  unfold EnsZS
  rw [e]
  cases f <;> exact q
theorem ez_if {c : FT} {g1 g2 : FS} (h : Ens (c sl st) fun b st => (b = true → EnsZS (g1 sl st) N R X) ∧ (b = false → EnsZS (g2 sl st) N R X)) : EnsZS (sIf c g1 g2 sl st) N R X := by
  obtain ⟨b, s, e, q⟩ := h
  show EnsZS (bnd (c sl st) fun k st => cond k (g1 sl st) (g2 sl st)) N R X
  rw [e]
  cases b with
  | true => exact q.1 rfl
  | false => exact q.2 rfl
theorem ez_raise {C : Addr} {flds : List Str} {chk : List D → Option D} {fs : FA} (h : Ens (fs sl st) fun ds st => (ds.length = flds.length ∧ (chk ds).isSome = true) ∧ X ⟨C, (flds.zip ds).reverse⟩) : EnsZS (sRaise C flds chk fs sl st) N R X := by
  obtain ⟨ds, s, e, c, q⟩ := h
  show EnsZS (bnd (fs sl st) fun ds st => if ds.length = flds.length ∧ (chk ds).isSome = true then some (.exc ⟨C, (flds.zip ds).reverse⟩ st) else none) N R X
  rw [e]
  show EnsZS (if ds.length = flds.length ∧ (chk ds).isSome = true then _ else none) N R X
  rw [if_pos c]
  exact q
theorem ez_def {Q : D → Sto → Prop} {n k : Nat} {g : FS} {ds : List D} (sl : Sl) (e : ds.map some ++ List.replicate (n - k) none = sl) (h : EnsZS (g sl st) (fun _ st => Q .non st) Q X) : EnsZ (mDef n k g ds st) Q X := by
  subst e
  refine ez_bnd (EnsZ.imp h fun f st q => ?_)
  cases f with
  | nx _ => exact q
  | rt d => exact q
  | bk _ => exact q.elim
  | ct _ => exact q.elim
theorem ez_B0 {Q : D → Sto → Prop} {n : Nat} {m : List D → Sto → MM D} {ds : List D} (hl : ds.length = n) (hp : noPtr ds = true) (pr : pfs ds = true) (h : EnsZ (m ds []) (fun d _ => pf d = true ∧ Q d st) fun e => pfX e = true ∧ X e) : EnsZ (callB n m ds st) Q X := by
  rw [callB_0 hl hp pr]
  unfold back0
  match m ds [], h with
  | some (.ok d cs), h =>
    show EnsZ (outB d cs 0 st) Q X
    unfold outB
    rw [if_pos h.1]; exact h.2
  | some (.exc e cs), h =>
    show EnsZ (if pfX e = true then some (.exc e st) else none) Q X
    rw [if_pos h.1]; exact h.2
end
end M

/-! repr of data, dicts among them. -/
namespace M
open PySem PySem.Spec PyProof.Rows L2
def keyPy : Key → PyData
  | .inl i => .int i
  | .inr x => .str x
mutual
inductive Dq (K : PySem.W.Frag) (H : Hp) : V → PyData → Prop
  | non : Dq K H .non .none
  | bl (b : Bool) : Dq K H (.bl b) (.bool b)
  | int (i : Int) : Dq K H (.int i) (.int i)
  | str (x : Str) : Dq K H (.str x) (.str x)
  | lst {a : Addr} {xs : List V} {ds : List PyData} (h : SqL K H a xs) (r : DqAll K H xs ds) : Dq K H (.ref a) (.list ds)
  | tup {a : Addr} {xs : List V} {ds : List PyData} (h : SqT K H a xs) (r : DqAll K H xs ds) : Dq K H (.ref a) (.tuple ds)
  | dct {a : Addr} {kvs : List (Key × V)} {ds : List PyData} (h : Rd H a (.dK kvs)) (r : DqAll K H (kvs.map (·.2)) ds) : Dq K H (.ref a) (.dict ((kvs.map fun p => keyPy p.1).zip ds))
  | dcT {a : Addr} {kvs : List (List Key × V)} {ds : List PyData} (h : Rd H a (.dT kvs)) (r : DqAll K H (kvs.map (·.2)) ds) : Dq K H (.ref a) (.dict ((kvs.map fun p => .tuple (p.1.map keyPy)).zip ds))
inductive DqAll (K : PySem.W.Frag) (H : Hp) : List V → List PyData → Prop
  | nil : DqAll K H [] []
  | cons {v : V} {vs : List V} {d : PyData} {ds : List PyData} (h : Dq K H v d) (r : DqAll K H vs ds) : DqAll K H (v :: vs) (d :: ds)
end
section
variable {X : Cx} {pins : List (Addr × Obj)} {σ : L2.St} {H : Hp} {s : Shared}
theorem DqAll.len {K : PySem.W.Frag} {vs : List V} {ds : List PyData} : DqAll K H vs ds → vs.length = ds.length
  | .nil => rfl
  | .cons _ r => congrArg (· + 1) r.len
mutual
/-- no list beside a dict -/
def noLs : PyData → Bool
  | .list _ => false
  | .tuple xs => noLsA xs
  | .dict kvs => noLsK kvs
  | _ => true
def noLsA : List PyData → Bool
  | [] => true
  | x :: r => noLs x && noLsA r
def noLsK : List (PyData × PyData) → Bool
  | [] => true
  | (k, v) :: r => noLs k && noLs v && noLsK r
end
theorem keyIs_reads {h : Heap} {k : Key} {v : Value} (e : keyIs k v = true) : Reads h v (keyPy k) [] := by
  rcases keyIs_shape e with ⟨i, t, rfl, rfl⟩ | ⟨x, t, rfl, rfl⟩
  · exact .int i t
  · exact .str x t
theorem keys_reads {P : Program} {w : World} {h : Heap} : ∀ {es : List DictEntry} {vs : List (Key × Value)}, Pairs (mixKind P w) es vs → ReadsAll h (es.map (·.key)) (vs.map fun p => keyPy p.1) []
  | _, _, .nil => .nil
  | _, _, .cons k _ r => ReadsAll.cons (as := []) (keyIs_reads k) (keys_reads r)
theorem pairs_vals {P : Program} {w : World} : ∀ {es : List DictEntry} {vs : List (Key × Value)}, Pairs (mixKind P w) es vs → es.map (·.val) = vs.map (·.2)
  | _, _, .nil => rfl
  | _, _, .cons _ e r => by rw [List.map_cons, List.map_cons, e, pairs_vals r]
theorem items_reads {P : Program} {w : World} {h : Heap} : ∀ {ks : List Key} {vs : List Value}, ItemsAre (mixKind P w) ks vs → ReadsAll h vs (ks.map keyPy) []
  | _, _, .nil => .nil
  | _, _, .cons k r => ReadsAll.cons (as := []) (keyIs_reads k) (items_reads r)
theorem vals_of {κ : Type} : ∀ {kvs : List (κ × V)} {vs : List (κ × Value)}, KV kvs vs → Vals (kvs.map (·.2)) (vs.map (·.2)) := by
  intro kvs vs r
  unfold KV at r
  induction r with
  | nil => exact .nil
  | cons h t ih => rw [List.map_cons, List.map_cons]; exact .cons h.2 ih
theorem zipk_fst {α : Type} : ∀ (xs : List α) (ys : List PyData) (f : α → PyData), xs.length = ys.length → ((xs.map f).zip ys).map (·.1) = xs.map f
  | [], [], _, _ => rfl
  | x :: xs, y :: ys, f, h => by
    rw [List.map_cons, List.zip_cons_cons, List.map_cons, zipk_fst xs ys f (by simpa using h)]
  | [], _ :: _, _, h => by simp at h
  | _ :: _, [], _, h => by simp at h
theorem zipk_snd {α : Type} : ∀ (xs : List α) (ys : List PyData) (f : α → PyData), xs.length = ys.length → ((xs.map f).zip ys).map (·.2) = ys
  | [], [], _, _ => rfl
  | x :: xs, y :: ys, f, h => by
    rw [List.map_cons, List.zip_cons_cons, List.map_cons, zipk_snd xs ys f (by simpa using h)]
  | [], _ :: _, _, h => by simp at h
  | _ :: _, [], _, h => by simp at h
theorem zip_noLs {α : Type} (f : α → PyData) : ∀ (xs : List α) (ys : List PyData), xs.length = ys.length → noLsK ((xs.map f).zip ys) = true → noLsA ys = true
  | [], [], _, _ => rfl
  | x :: xs, y :: ys, h, e => by
    rw [List.map_cons, List.zip_cons_cons, noLsK] at e
    simp only [Bool.and_eq_true] at e
    rw [noLsA, e.1.2, zip_noLs f xs ys (by simpa using h) e.2]; rfl
  | [], _ :: _, h, _ => by simp at h
  | _ :: _, [], h, _ => by simp at h
theorem kt_vals {H : Hp} : ∀ {kvs : List (List Key × V)} {xs : List (List Key × Addr × Value)}, KT H kvs xs → Vals (kvs.map (·.2)) (xs.map fun p => p.2.2)
  | _, _, .nil => .nil
  | _, _, .cons z t => .cons z.2.2 (kt_vals t)
theorem kt_keys {H : Hp} : ∀ {kvs : List (List Key × V)} {xs : List (List Key × Addr × Value)}, KT H kvs xs → kvs.map (fun p => PyData.tuple (p.1.map keyPy)) = xs.map fun p => .tuple (p.1.map keyPy)
  | _, _, .nil => rfl
  | _, _, .cons z t => by rw [List.map_cons, List.map_cons, kt_keys t, z.1]
theorem ne_sys {a : Addr} (h : (a == sysModules) = false) : sysModules ≠ a := fun e => by rw [← e] at h; simp at h
mutual
theorem Dq.reads (I : Inv X pins σ H s) : ∀ {v : V} {u : Value} {d : PyData}, Dq X.K H v d → RelV v u → ∃ as, Reads s.heap u d as ∧ (noLs d = true → sysModules ∉ as)
  | _, _, _, .non, r => by cases r; exact ⟨_, .none, fun _ => by simp⟩
  | _, _, _, .bl b, r => by cases r; exact ⟨_, .bool b, fun _ => by simp⟩
  | _, _, _, .int i, r => by obtain ⟨t, rfl⟩ := r; exact ⟨_, .int i t, fun _ => by simp⟩
  | _, _, _, .str x, r => by obtain ⟨t, rfl⟩ := r; exact ⟨_, .str x t, fun _ => by simp⟩
  | _, _, _, .lst h q, r => by
    cases r
    obtain ⟨its, rv, ⟨o, n, ho, hc, _, hd⟩, _⟩ := I.list h
    obtain ⟨as, hr, _⟩ := DqAll.reads I q rv
    exact ⟨_, .list ho hc hd hr, fun e => by rw [noLs] at e; cases e⟩
  | _, _, _, .tup (ds := ds) h q, r => by
    cases r
    obtain ⟨its, rv, ⟨o, ho, hc, n, hd⟩, _⟩ := I.tuple h
    obtain ⟨as, hr, hn⟩ := DqAll.reads I q rv
    exact ⟨_, .tuple ho hc hd hr, fun e => hn (by rw [noLs] at e; exact e)⟩
  | _, _, _, .dct (kvs := kvs) (ds := ds) h q, r => by
    cases r
    obtain ⟨_, hs, vs, rk, o, es, ep, ho, hx, hd, _, hp, _⟩ := dk_rd I.hok h
    obtain ⟨as, hr, hn⟩ := DqAll.reads I q (vals_of rk)
    have hl := q.len
    rw [List.length_map] at hl
    have e1 : kvs.map (fun p => keyPy p.1) = vs.map fun p => keyPy p.1 := by
      have := congrArg (List.map keyPy) rk.keys
      rw [List.map_map, List.map_map] at this
      exact this
    refine ⟨_, .dict (as := []) (bs := as) ho hx.1 hd ?_ ?_, fun e => ?_⟩
    · rw [zipk_fst kvs ds (fun p => keyPy p.1) hl, e1]; exact keys_reads hp
    · rw [zipk_snd kvs ds (fun p => keyPy p.1) hl, pairs_vals hp]; exact hr
    · rw [noLs] at e
      have := hn (zip_noLs _ kvs ds hl e)
      simp only [List.append_nil, List.cons_append, List.nil_append, List.mem_cons, not_or]
      exact ⟨ne_sys hs, this⟩
  | _, _, _, .dcT (kvs := kvs) (ds := ds) h q, r => by
    cases r
    obtain ⟨_, hs, xs, rk, o, es, ep, ho, hx, hd, he, hi, _⟩ := dt_rd I.hok h
    have rv : Vals (kvs.map (·.2)) (xs.map fun p => p.2.2) := kt_vals rk
    obtain ⟨as, hr, hn⟩ := DqAll.reads I q rv
    have hl := q.len
    rw [List.length_map] at hl
    have e1 : kvs.map (fun p => PyData.tuple (p.1.map keyPy)) = xs.map fun p => .tuple (p.1.map keyPy) := kt_keys rk
    have kr : ∀ {l : List (List Key × Addr × Value)}, (∀ x ∈ l, (tupleKind (mixKind X.prog X.w)).is s.heap x.1 x.2.1) → ReadsAll s.heap ((l.map (entryOfKey (tupleKind (mixKind X.prog X.w)))).map (·.key)) (l.map fun p => .tuple (p.1.map keyPy)) [] := by
      intro l
      induction l with
      | nil => intro _; exact .nil
      | cons p r ih =>
        intro hh
        obtain ⟨o, its, n, g1, g2, g3, g4⟩ := hh p List.mem_cons_self
        exact ReadsAll.cons (as := []) (.tuple g1 g2 g3 (items_reads g4)) (ih fun x m => hh x (List.mem_cons_of_mem _ m))
    refine ⟨_, .dict (as := []) (bs := as) ho hx.1 hd ?_ ?_, fun e => ?_⟩
    · rw [zipk_fst kvs ds (fun p => .tuple (p.1.map keyPy)) hl, e1, he]; exact kr hi
    · rw [zipk_snd kvs ds (fun p => .tuple (p.1.map keyPy)) hl, he, List.map_map]; exact hr
    · rw [noLs] at e
      have := hn (zip_noLs _ kvs ds hl e)
      simp only [List.append_nil, List.cons_append, List.nil_append, List.mem_cons, not_or]
      exact ⟨ne_sys hs, this⟩
theorem DqAll.reads (I : Inv X pins σ H s) : ∀ {vs : List V} {us : List Value} {ds : List PyData}, DqAll X.K H vs ds → Vals vs us → ∃ as, ReadsAll s.heap us ds as ∧ (noLsA ds = true → sysModules ∉ as)
  | _, _, _, .nil, r => by cases r; exact ⟨_, .nil, fun _ => by simp⟩
  | _, _, _, .cons (d := d) (ds := ds) h q, .cons r rs => by
    obtain ⟨as, h1, n1⟩ := Dq.reads I h r
    obtain ⟨bs, h2, n2⟩ := DqAll.reads I q rs
    refine ⟨_, .cons h1 h2, fun e => ?_⟩
    rw [noLsA, Bool.and_eq_true] at e
    simp only [List.mem_append, not_or]
    exact ⟨n1 e.1, n2 e.2⟩
end
end
section
variable {X : Cx}
def reprOk (d : PyData) : Bool := (!d.hasDict || noLs d) && d.showable && decide (d.shown.length ≤ 10000000) && decide (d.depth ≤ 60)
def rRepr (K : PySem.W.Frag) : List V → Hp → VK → Prop := fun xs H Q => ∃ a d, xs = [.ref a] ∧ Dq K H (.ref a) d ∧ reprOk d = true ∧ Q (.str d.shown) H
theorem call_repr (hg : X.A.guards = some []) (hu : X.A.units + 64 < cLine) : CallR X (.builtin "repr") (rRepr X.K) := by
  intro pins s σ H xs us Q I r h
  obtain ⟨a, d, rfl, hd, ok, q⟩ := h
  obtain ⟨u, rfl, ru⟩ := vals1 r
  cases ru
  obtain ⟨as, rd, hn⟩ := hd.reads I rfl
  unfold reprOk at ok
  simp only [Bool.and_eq_true, Bool.or_eq_true, decide_eq_true_eq, Bool.not_eq_true'] at ok
  obtain ⟨⟨⟨o1, o2⟩, o3⟩, o4⟩ := ok
  refine PySem.repr_of_reads' (h₀ := s.heap) rd o2 (fun e => ?_) hg (by omega) (fun _ _ e => e) (fun h' u tk hk => ?_) (by rw [sizeLine_eq]; omega)
  · rcases o1 with o1 | o1
    · rw [o1] at e; cases e
    · exact hn o1
  · exact ⟨.str d.shown, H, I.kept hk, ⟨u, rfl⟩, q⟩
end
/-! the plain function -/
mutual
def dq : D → Option PyData
  | .non => some .none
  | .bl b => some (.bool b)
  | .int i => some (.int i)
  | .str x => some (.str x)
  | .tup ds => (dqs ds).map .tuple
  | .lst ds => (dqs ds).map .list
  | .dct kvs => (dqk kvs).map fun vs => .dict ((kvs.map fun p => keyPy p.1).zip vs)
  | .dcT kvs => (dqt kvs).map fun vs => .dict ((kvs.map fun p => .tuple (p.1.map keyPy)).zip vs)
  | .ptr _ => none
  | .scr _ => none
  | .gtp _ => none
  | .fnc _ => none
def dqs : List D → Option (List PyData)
  | [] => some []
  | d :: r => match dq d, dqs r with
    | some x, some xs => some (x :: xs)
    | _, _ => none
def dqk : List (Key × D) → Option (List PyData)
  | [] => some []
  | (_, d) :: r => match dq d, dqk r with
    | some x, some xs => some (x :: xs)
    | _, _ => none
def dqt : List (List Key × D) → Option (List PyData)
  | [] => some []
  | (_, d) :: r => match dq d, dqt r with
    | some x, some xs => some (x :: xs)
    | _, _ => none
end
theorem dqk_eq : ∀ kvs : List (Key × D), dqk kvs = dqs (kvs.map (·.2))
  | [] => by rw [dqk, List.map_nil, dqs]
  | (_, d) :: r => by rw [dqk, List.map_cons, dqs, dqk_eq r]
theorem dqt_eq : ∀ kvs : List (List Key × D), dqt kvs = dqs (kvs.map (·.2))
  | [] => by rw [dqt, List.map_nil, dqs]
  | (_, d) :: r => by rw [dqt, List.map_cons, dqs, dqt_eq r]
section
variable {K : PySem.W.Frag} {w : Ws}
mutual
theorem dq_rep (o : Ok K w) : ∀ {v : V} {d : D} {x : PyData}, Rep K w.F w.al v d → dq d = some x → Dq K w.H v x
  | _, _, _, .non, h => by rw [dq] at h; cases h; exact .non
  | _, _, _, .bl b, h => by rw [dq] at h; cases h; exact .bl b
  | _, _, _, .int i, h => by rw [dq] at h; cases h; exact .int i
  | _, _, _, .str s, h => by rw [dq] at h; cases h; exact .str s
  | _, _, _, .tup (ds := ds) f r, h => by
    rw [dq] at h
    cases q : dqs ds with
    | none => rw [q] at h; cases h
    | some xs => rw [q] at h; cases h; exact .tup (SqT.of (o.sub _ _ f)) (dqs_rep o r q)
  | _, _, _, .lst (ds := ds) f r, h => by
    rw [dq] at h
    cases q : dqs ds with
    | none => rw [q] at h; cases h
    | some xs => rw [q] at h; cases h; exact .lst (SqL.of (o.sub _ _ f)) (dqs_rep o r q)
  | _, _, _, .dct (kvs := kvs) (ds := ds) f e r, h => by
    rw [dq] at h
    cases q : dqk ds with
    | none => rw [q] at h; cases h
    | some xs =>
      rw [q] at h; cases h
      rw [dqk_eq] at q
      have e1 : kvs.map (fun p => keyPy p.1) = ds.map fun p => keyPy p.1 := by
        have := congrArg (List.map keyPy) e
        rw [List.map_map, List.map_map] at this
        exact this
      rw [← e1]
      exact .dct (M.rd_of o.sub f) (dqs_rep o r q)
  | _, _, _, .dcT (kvs := kvs) (ds := ds) f e r, h => by
    rw [dq] at h
    cases q : dqt ds with
    | none => rw [q] at h; cases h
    | some xs =>
      rw [q] at h; cases h
      rw [dqt_eq] at q
      have e1 : kvs.map (fun p => PyData.tuple (p.1.map keyPy)) = ds.map fun p => .tuple (p.1.map keyPy) := by
        have := congrArg (List.map fun k : List Key => PyData.tuple (k.map keyPy)) e
        rw [List.map_map, List.map_map] at this
        exact this
      rw [← e1]
      exact .dcT (M.rd_of o.sub f) (dqs_rep o r q)
  | _, _, _, .ptr _, h => by rw [dq] at h; cases h
  | _, _, _, .scr _, h => by rw [dq] at h; cases h
  | _, _, _, .gtp _ _, h => by rw [dq] at h; cases h
  | _, _, _, .fnc _, h => by rw [dq] at h; cases h
theorem dqs_rep (o : Ok K w) : ∀ {vs : List V} {ds : List D} {xs : List PyData}, Reps K w.F w.al vs ds → dqs ds = some xs → DqAll K w.H vs xs
  | _, _, _, .nil, h => by rw [dqs] at h; cases h; exact .nil
  | _, _, _, .cons (d := d) (ds := ds) r rs, h => by
    rw [dqs] at h
    cases q : dq d with
    | none => simp only [q] at h; cases h
    | some x =>
      cases q2 : dqs ds with
      | none => simp only [q, q2] at h; cases h
      | some xs => simp only [q, q2] at h; cases h; exact .cons (dq_rep o r q) (dqs_rep o rs q2)
end
end
def isSeqD : D → Bool
  | .tup _ => true
  | .lst _ => true
  | .dct _ => true
  | .dcT _ => true
  | _ => false
def cRepr (st : Sto) (ds : List D) : MM D := match ds with
  | [d] => match dq d with
    | some x => if isSeqD d = true ∧ reprOk x = true then ret (.str x.shown) st else none
    | none => none
  | _ => none
theorem rf_repr {K : PySem.W.Frag} {E : XK} : RfC K E (rRepr K) cRepr := fun xs ds w Q o r hp => by
  unfold cRepr at hp
  split at hp
  · rename_i d
    obtain ⟨v, rfl, rx⟩ := r.one_inv
    cases q : dq d with
    | none => simp only [q] at hp; exact hp.elim
    | some x =>
      simp only [q] at hp
      obtain ⟨⟨h1, h2⟩, hp⟩ := post_ite hp
      have hd := dq_rep o rx q
      have hv : ∃ a, v = .ref a := by
        cases rx with
        | tup _ _ => exact ⟨_, rfl⟩
        | lst _ _ => exact ⟨_, rfl⟩
        | dct _ _ _ => exact ⟨_, rfl⟩
        | dcT _ _ _ => exact ⟨_, rfl⟩
        | _ => cases h1
      obtain ⟨a, rfl⟩ := hv
      exact ⟨a, x, rfl, hd, h2, post_ret o (.str _) hp⟩
  · exact hp.elim
theorem ens_repr {st : Sto} {d : D} {x : PyData} {Q : D → Sto → Prop} (e : dq d = some x) (h1 : isSeqD d = true) (h2 : reprOk x = true) (q : Q (.str x.shown) st) : Ens (cRepr st [d]) Q := by
  unfold cRepr
  simp only [e]
  exact ens_ite ⟨h1, h2⟩ (ens_ret q)
end M

/-! The law's def where it is called: no guard stands there, so repr of data may run. -/
namespace M
open PySem PySem.Spec PyProof.Rows L2
section
variable {P : Program} {w : World} {K : PySem.W.Frag} {mg : Str → Option Value} {base : Heap}
theorem zip_kind {N ps : List Str} {sc : Scope} (S : FnScope N ps sc) (us : List Value) (m : Nat) (y : Str × Value) (hy : y ∈ ps.zip us) :
    sc.names.lookup y.1 = some .local ∨ (sc.names.lookup y.1 = some .cell ∧ ((cellsFrom m sc.names []).lookup y.1).isSome = true) := by
  have hm : y.1 ∈ ps := (List.of_mem_zip (a := y.1) (b := y.2) hy).1
  cases S.par _ hm with
  | inl q => exact .inl q
  | inr q => exact .inr ⟨q, PySem.W.cellsFrom_some _ _ _ (.inl q)⟩
/-- a def at one place -/
theorem fn_here {x qual : Str} {st : Stmt} {f : Addr} {fd : FuncData} {N ps : List Str} {k : Nat} {g : FS} {A : Around} {outer : List Env} {s : Shared} {H : Hp} {args : Args} {us : List Value} {vs : List V} {Q : VK} {E : XK}
    (F : Fun K x qual st f fd) (S : FnScope N ps (defScope st)) (hr : Room (k + 1) A) (e0 : Env0 P w K mg base A outer s H) (hb : BindsTo s fd args (ps.zip us)) (r : Vals vs us) (hs : spM K ps.length (mDef N.length ps.length g) vs H Q E)
    (body : ∀ cdv : Value, Room k (A.deeper (envOfC qual (defScope st) s.heap.objs.size f cdv)) → MSs (cxOf CX0 P w K mg base N qual (defScope st) f cdv A outer s H E).nox E (defBody st) g) :
    codeAny (model P w) A (.call (.ref f) args) (CR CX0 outer P w H s Q E) s := by
  obtain ⟨oc, od, kV, doc, pm, an, cdv, ct, osl, rfl, lk, hcd⟩ := F.ex
  obtain ⟨t, p, q⟩ := (body cdv (hr.deeper _)).ex
  have goal := post_def q hs
  have runs := p.nox
  have here : K.In s.heap := e0.mod.kin.keeps fun b o z => (e0.bs b o z).1
  have nolim : s.heap.NoLimit := e0.mod.nolimit.keeps fun b o z => (e0.bs b o z).1
  have hl : vs.length = ps.length := spM_len hs
  have enter := PySem.W.codeRec_of here hcd
  refine codeAny_call_function hr.depth (here _ _ lk) rfl S.co S.gen rfl enter (hb _ _ _ _ ?_)
  refine wpAny_newFunctionEnv_cells S.kind (zip_kind S us _) fun env ee s1 ic => ?_
  subst ee
  refine ⟨nolim.keeps ic.toInCall.keep, codeAny_func ?_⟩
  have I0 := inv_start (CX := CX0) (E := E) (cd := cdv) (qual := qual) (f := f) S hr.hd e0 hl r ic
  refine wpAny_mono (runs.run [] s1 (start N vs) H _ I0 goal) (fun fl s' z => ?_) fun _ _ z => z
  match fl, z with
  | .ret u, ⟨v, _, H', J, rv, z⟩ => exact ⟨v, H', J.os, J.bare, J.base, J.hok, rv, z⟩
  | .next, ⟨_, H', J, z⟩ => exact ⟨V.non, H', J.os, J.bare, J.base, J.hok, rfl, z⟩
  | .brk, ⟨_, _, _, z⟩ => exact z.elim
  | .cont, ⟨_, _, _, z⟩ => exact z.elim
/-- what the law's def does at the caller -/
def Here (P : Program) (w : World) (K : PySem.W.Frag) (mg : Str → Option Value) (f : Addr) (fd : FuncData) : Prop := ∀ (base : Heap), K.In base → base.Ns mainGlobals mg → ∀ (s : Shared) (H : Hp) (a : Addr) (ns : List Int), Env0 P w K mg base callerA [] s H →
  BindsTo s fd ⟨[.ref a], []⟩ [("script", .ref a)] → SqL K H a (ns.map V.int) → ns.length ≤ 63 → (∀ z ∈ ns, Builtin.Int.intBits z ≤ 1048576) →
  codeAny (model P w) callerA (.call (.ref f) ⟨[.ref a], []⟩) (CR CX0 [] P w H s (fun v _ => v = .bl true) (fun _ _ _ => False)) s
/-- from the def to the claim's own end -/
theorem ends_well {H : Hp} {s1 : Shared} (only : Only H) (ok1 : HOk P w H s1.heap) {r : Result} {s2 : Shared} (c : CR CX0 [] P w H s1 (fun v _ => v = .bl true) (fun _ _ _ => False) r s2) :
    r = .ok (.ret (.bool true)) ∧ OldK s1.heap s2.heap ∧ s2.os = s1.os ∧ AllBare s2.gens := by
  match r, c with
  | .error e, c => exact False.elim c
  | .ok .next, c => exact False.elim c
  | .ok .brk, c => exact False.elim c
  | .ok .cont, c => exact False.elim c
  | .ok (.ret u), c =>
    obtain ⟨v, H2, os, bare, un, ok2, rv, e⟩ := c
    subst e
    have eu : u = Value.bool true := rv
    subst eu
    refine ⟨rfl, .of_keep fun b o z => ?_, os, bare⟩
    match hb : H b with
    | none => exact un.keep b o z hb (fun m => absurd (show b ∈ ([] : List Addr) from m) (by simp)) (by simp)
    | some ho =>
      rcases only b with n | ⟨o1, xs, n⟩
      · rw [hb] at n; cases n
      · obtain ⟨g1, _⟩ := ok1 b _ n
        obtain ⟨g2, _⟩ := ok2 b _ (un.frzs b o1 _ n)
        rw [z] at g1
        cases g1
        exact g2
theorem hid_ns {H : Hp} {h : Heap} (nd : ∀ b o (es : Array DictEntry) (n : Nat), h.get? b = some o → o.data = .dict es n → H b = none) {b : Addr} {m : Str → Option Value} : h.Ns b m → (hidT h H).Ns b m := fun ⟨o, es, n, e, d, r⟩ => ⟨o, es, n, hidT_get e (nd b o es n e d), d, r⟩
/-- one heap beside the script -/
theorem here_core {H : Hp} {s1 : Shared} {mb : Str → Option Value} {f a : Addr} {fd : FuncData} {vs : List Value} {ns : List Int} (F : Here P w K mg f fd) (bind : ∀ (s : Shared) (u : Value), BindsTo s fd ⟨[u], []⟩ [("script", u)])
    (kin : K.In s1.heap) (g1 : s1.heap.Ns mainGlobals mg) (g2 : s1.heap.Ns builtinsNs mb) (g3 : ∀ x : Str, x ≠ "__name__" → mb x = bootBuiltins x) (g4 : s1.heap.NoLimit) (g5 : s1.gens = #[])
    (obj : s1.heap.get? a = some { cls := .type "list", data := .seq vs.toArray }) (hl : ns.length ≤ 63) (bits : ∀ z ∈ ns, Builtin.Int.intBits z ≤ 1048576)
    (only : Only H) (sq : SqL K H a (ns.map V.int)) (ok1 : HOk P w H s1.heap) (at_a : ∀ b, H b ≠ none → b = a) (noK : H a ≠ none → K.lookup a = none) :
    codeAny (model P w) callerA (.call (.ref f) ⟨[.ref a], []⟩) (fun r s2 => r = .ok (.ret (.bool true)) ∧ OldK s1.heap s2.heap ∧ s2.os = s1.os ∧ AllBare s2.gens) s1 := by
  have nd : ∀ b o (es : Array DictEntry) (n : Nat), s1.heap.get? b = some o → o.data = .dict es n → H b = none := fun b o es n e d => by
    match hb : H b with
    | none => rfl
    | some _ =>
      obtain rfl := at_a b (by rw [hb]; exact Option.some_ne_none _)
      rw [obj] at e
      cases e
      have d2 : Data.seq vs.toArray _ = Data.dict es n := d
      cases d2
  have kin2 : K.In (hidT s1.heap H) := fun b o e => hidT_get (kin b o e) (by
    match hb : H b with
    | none => rfl
    | some _ =>
      obtain rfl := at_a b (by rw [hb]; exact Option.some_ne_none _)
      rw [noK (by rw [hb]; exact Option.some_ne_none _)] at e
      cases e)
  have lim2 : (hidT s1.heap H).NoLimit := by
    obtain ⟨mc, n1, n2⟩ := g4
    exact ⟨mc, hid_ns nd n1, n2⟩
  have md : Mod K mg (hidT s1.heap H) := ⟨kin2, hid_ns nd g1, ⟨mb, hid_ns nd g2, g3⟩, lim2⟩
  have e0 : Env0 P w K mg (hidT s1.heap H) callerA [] s1 H := ⟨rfl, md, fun _ _ e => of_hidT e, Nat.le_of_eq (hidT_size _ _), trivial, fun b m => absurd (show b ∈ ([] : List Addr) from m) (by simp), ok1, AllBare.of_eq g5⟩
  exact codeAny_mono (F _ kin2 (hid_ns nd g1) s1 H a ns e0 (bind _ _) sq hl bits) fun r s2 c => ends_well only ok1 c
theorem here_call {s1 : Shared} {mb : Str → Option Value} {f a : Addr} {fd : FuncData} {vs : List Value} {ns : List Int} (F : Here P w K mg f fd) (bind : ∀ (s : Shared) (u : Value), BindsTo s fd ⟨[u], []⟩ [("script", u)])
    (kin : K.In s1.heap) (g1 : s1.heap.Ns mainGlobals mg) (g2 : s1.heap.Ns builtinsNs mb) (g3 : ∀ x : Str, x ≠ "__name__" → mb x = bootBuiltins x) (g4 : s1.heap.NoLimit) (g5 : s1.gens = #[])
    (obj : s1.heap.get? a = some { cls := .type "list", data := .seq vs.toArray }) (iv : IntsAre vs ns) (hl : ns.length ≤ 63) (bits : ∀ z ∈ ns, Builtin.Int.intBits z ≤ 1048576) :
    codeAny (model P w) callerA (.call (.ref f) ⟨[.ref a], []⟩) (fun r s2 => r = .ok (.ret (.bool true)) ∧ OldK s1.heap s2.heap ∧ s2.os = s1.os ∧ AllBare s2.gens) s1 := by
  have rv := vals_ints iv
  have lv := iv.length
  have big : ns.length ≤ sizeLine := by rw [sizeLine_eq]; omega
  match hk : K.lookup a with
  | some o =>
    have e := kin a o hk
    rw [obj] at e
    cases e
    exact here_core (H := fun _ => none) F bind kin g1 g2 g3 g4 g5 obj hl bits (fun _ => .inl rfl) (.inr ⟨_, vs.toArray, _, hk, rfl, rfl, rfl, by rw [List.size_toArray, lv]; exact big, by simpa using rv⟩) (fun b u z => by cases z) (fun b z => absurd rfl z) fun z => absurd rfl z
  | none =>
    let H : Hp := fun b => if b = a then some (.frz { cls := .type "list", data := .seq vs.toArray } (.lst (ns.map V.int))) else none
    have at1 : H a = some (.frz { cls := .type "list", data := .seq vs.toArray } (.lst (ns.map V.int))) := if_pos rfl
    have at2 : ∀ b, b ≠ a → H b = none := fun b z => if_neg z
    refine here_core (H := H) F bind kin g1 g2 g3 g4 g5 obj hl bits (fun b => ?_) (.inl (.inr ⟨_, at1⟩)) (fun b u z => ?_) (fun b z => ?_) fun _ => hk
    · exact (Classical.em (b = a)).elim (fun e => .inr ⟨_, _, by rw [e]; exact at1⟩) fun e => .inl (at2 b e)
    · rcases Classical.em (b = a) with rfl | e
      · rw [at1] at z
        cases z
        exact ⟨obj, by rw [List.length_map]; exact big, vs, _, rv, obj⟩
      · rw [at2 b e] at z; cases z
    · exact Classical.byContradiction fun e => z (at2 b e)
end
theorem walk_here {l : PySem.W.OpenLaw} {q : Program} {loose : List Str} {XP : (Str → Option Value) → Heap → Prop} {YP : World → Heap → Prop} {d : DefRec} {K : Params → PySem.W.Frag}
    (hn : l.most = some 63) (hdf : d.params.defaults = []) (hY : ∀ (w : World) (h : Heap), YP w h → (K w.params).In h)
    (F : ∀ (w : World) (mg : Str → Option Value) (fa : Addr) (h : Heap), (K w.params).In h → h.Ns mainGlobals mg → mg d.name = some (.ref fa) →
      ∃ fd : FuncData, (∀ (s : Shared) (u : Value), BindsTo s fd ⟨[u], []⟩ [("script", u)]) ∧ Here l.prog w (K w.params) mg fa fd) :
    PySem.W.WalkO q loose XP YP l.row.toRowW d [] (fun f vs => PySem.call f vs) := by
  refine Att.attach_callB hn hdf fun w s0 s1 mg mb fa o pm cd doc a vs ns G Y _ _ _ hmg obj iv hlen bits gens => ?_
  have kin := hY w _ Y
  obtain ⟨fd, bind, hF⟩ := F w mg fa _ kin G.T.g hmg
  exact here_call hF bind kin G.T.g G.T.b G.T.builtins G.T.nolimit gens obj iv hlen bits
end M

/-! more rules: range downwards, list.insert, the law's def -/
namespace M
open PySem L2
section
variable {X : Cx} {E : XK} {K : PySem.W.Frag} {a b c e o tg : Expr} {es : List Expr} {fa fb fc : FE} {fs : FA} {pos apos cpos : Pos}
/-- hi, hi - 1, .. -/
def rngM (hi : Int) (n : Nat) : List D := (List.range n).map fun (i : Nat) => .int (hi + (i : Int) * (-1))
theorem seq_rngM {w : Ws} (hi : Int) (n : Nat) : SeqIt K w (Itc hi (-1) n) (rngM hi n) := fun w' o s => by
  have el : (rngM hi n).length = n := by unfold rngM; rw [List.length_map, List.length_range]
  refine ⟨by rw [el]; exact Nat.le_refl _, fun i d e => ?_⟩
  unfold rngM at e
  rw [List.getElem?_map] at e
  have hi' : i < n := by
    by_cases z : i < n
    · exact z
    · rw [List.getElem?_eq_none (by rw [List.length_range]; omega)] at e; cases e
  rw [List.getElem?_range hi'] at e
  cases e
  refine ⟨hi', fun x H' hy => ?_⟩
  obtain ⟨rfl, rfl⟩ := hy
  exact ⟨w', rfl, rfl, o, Step.refl _, .int _⟩
def iR3 (f : FA) : FA := fun sl st => bnd (f sl st) fun ds st => match ds with
  | [.int i, .int j, .int k] => if k = -1 ∧ -(2 ^ 62) ≤ i ∧ i < 2 ^ 62 ∧ -(2 ^ 62) ≤ j ∧ j < 2 ^ 62 then ret (rngM i (i - j).toNat) st else none
  | _ => none
theorem Reps.three_inv {F : Hp} {α : List Addr} {vs : List V} {a b c : D} (r : Reps K F α vs [a, b, c]) : ∃ x y z, vs = [x, y, z] ∧ Rep K F α x a ∧ Rep K F α y b ∧ Rep K F α z c := by
  cases r with
  | cons ra r => cases r with
    | cons rb r => cases r with
      | cons rc r => cases r; exact ⟨_, _, _, rfl, ra, rb, rc⟩
theorem mi_range3 {p : Pos} (ha : MA X E [a, b, c] fs) (hm : X.mg "range" = none) (hg : Gl X "range" := by rfl)
    (hs : starEach [a, b, c] X.env = (false, eval a X.env) :: starEach [b, c] X.env := by rfl) (hpl : (backTo pos (starEach [b, c] X.env)).any (·.1) = false := by rfl) : MI X E tg (.Call (.Name "range" p) [a, b, c] [] pos) (iR3 fs) := by
  obtain ⟨t, p, q⟩ := ha.ex
  refine ⟨_, pi_range3 hg hm p hs hpl, fun sl σ w R o s h => ?_⟩
  refine q sl σ w _ o s (post_bnd h fun vs ds w1 o1 s1 r hp => ?_)
  split at hp
  · rename_i i j k
    obtain ⟨x, y, z, rfl, rx, ry, rz⟩ := r.three_inv
    obtain ⟨hc, hq⟩ := post_ite (p := k = -1 ∧ -(2 ^ 62) ≤ i ∧ i < 2 ^ 62 ∧ -(2 ^ 62) ≤ j ∧ j < 2 ^ 62) hp
    obtain ⟨rfl, c1, c2, c3, c4⟩ := hc
    exact ⟨i, j, -1, _, by rw [rx.int_inv, ry.int_inv, rz.int_inv], RgC.neg c1 c2 c3 c4, post_ret (rp := fun w J ds => SeqIt X.K w J ds) o1 (seq_rngM _ _) hq⟩
  · exact hp.elim
def insD (ds : List D) (i : Int) (y : D) : List D := ds.take i.toNat ++ [y] ++ ds.drop i.toNat
def gInsert (st : Sto) (x : D) (as : List D) : MM D := match x, as with
  | .ptr p, [.int i, y] => match cellL st p with
    | some ds => if ds.length < sizeLine ∧ 0 ≤ i ∧ i < 2 ^ 63 then putL p (insD ds i y) .non st else none
    | none => none
  | _, _ => none
def rInsert : V → List V → Hp → VK → Prop := fun x vs H Q => ∃ (l : Addr) (xs : List V) (i : Int) (y : V), x = .ref l ∧ vs = [.int i, y] ∧ H l = some (.lst xs) ∧ xs.length < sizeLine ∧ 0 ≤ i ∧ i < 2 ^ 63 ∧ Q .non (upd H l (.lst (xs.take i.toNat ++ [y] ++ xs.drop i.toNat)))
theorem rf_insert : RfM K E rInsert gInsert := fun x dx xs ds w Q o rx rs h => by
  unfold gInsert at h
  split at h
  · rename_i p i y
    cases q : cellL w.st p with
    | none => rw [q] at h; exact h.elim
    | some ds =>
      rw [q] at h
      obtain ⟨⟨hl, h0, h1⟩, h⟩ := post_ite h
      obtain ⟨l, ys, rfl, ea, es, hx, r⟩ := cell_lst o rx q
      obtain ⟨u, v, rfl, ru, rv⟩ := rs.two_inv
      exact ⟨l, ys, i, v, rfl, by rw [ru.int_inv], hx, by rw [r.length]; exact hl, h0, h1, post_putL o es ea h .non (((r.take _).append (.cons rv .nil)).append (r.drop _))⟩
  · exact h.elim
end
section
open PySem.Spec PyProof.Rows
variable {P : Program} {w : World} {K : PySem.W.Frag} {mg : Str → Option Value} {base : Heap}
/-- the law's def, at the caller -/
theorem fn_law {st : Stmt} {f : Addr} {fd : FuncData} {N : List Str} {k : Nat} {g : FS} {s : Shared} {H : Hp} {a : Addr} {ns : List Int}
    (F : Fun K "law" "law" st f fd) (S : FnScope N ["script"] (defScope st)) (hr : Room (k + 1) callerA) (e0 : Env0 P w K mg base callerA [] s H) (hb : BindsTo s fd ⟨[.ref a], []⟩ [("script", .ref a)]) (sq : SqL K H a (ns.map V.int))
    (hm : ∃ st', mDef N.length 1 g [.scr ns] [] = some (.ok (.bl true) st'))
    (body : ∀ cdv : Value, Room k (callerA.deeper (envOfC "law" (defScope st) s.heap.objs.size f cdv)) → (callerA.deeper (envOfC "law" (defScope st) s.heap.objs.size f cdv)).guards = some [] → MSs (cxOf CX0 P w K mg base N "law" (defScope st) f cdv callerA [] s H (fun _ _ _ => False)).nox (fun _ _ _ => False) (defBody st) g) :
    codeAny (model P w) callerA (.call (.ref f) ⟨[.ref a], []⟩) (CR CX0 [] P w H s (fun v _ => v = .bl true) (fun _ _ _ => False)) s := by
  refine fn_here (us := [.ref a]) (vs := [.ref a]) F S hr e0 hb (.cons rfl .nil) ?_ fun cdv hr => body cdv hr (by first | rfl | simp [Around.deeper, callerA])
  obtain ⟨st', e⟩ := hm
  refine ⟨⟨[], [], H, H⟩, [.scr ns], rfl, ⟨rfl, fun _ _ h => h, fun i c z => by simp at z, fun i j a ⟨c, z⟩ => by simp at z⟩, .cons (.scr sq) .nil, rfl, ?_⟩
  show Post K _ (rD K) _ (mDef N.length 1 g [.scr ns] []) _
  rw [e]
  intro v w' _ _ _ r
  exact r.bl_inv
end
end M

/-! enumerate over a text -/
namespace M
open PySem PySem.Spec PyProof.Rows L2
/-- the signs of a text, each in a new pair -/
def Itq (x : Str) : It :=
  ⟨fun i _ => i < x.cps.size, fun i H v H' => ∃ T c, v = .ref T ∧ H T = none ∧ H' = upd H T (.tup [.int (i : Nat), .str ⟨#[c]⟩]) ∧ x.cps[i]? = some c, fun i _ => i = x.cps.size⟩
theorem turn_enumS {P : Program} {w : World} {K : PySem.W.Frag} {elts : List Expr} {kk : Nat} {tpos : Pos} (x : Str) (t : Tok) (e it : Addr) (ty : String) (hty : ty = "str_ascii_iterator" ∨ ty = "str_iterator") :
    Turn P w K (.Tuple elts kk tpos) (Itq x) [e, it] e (fun i h => (∃ old, IsEnum h e it ((i : Nat) : Int) old) ∧ h.IsStrIter it ty x t i ∧ e ≠ it) where
  mem := by simp
  obj := by
    rintro i h ⟨⟨old, he⟩, ⟨o, ho, hc, hd⟩, _⟩ b hb
    simp only [List.mem_cons, List.not_mem_nil, or_false] at hb
    rcases hb with rfl | rfl
    · exact ⟨_, he, fun v q => nomatch q⟩
    · exact ⟨o, ho, fun v q => by rw [hd] at q; cases q⟩
  keep := by
    rintro i h h' ⟨⟨old, he⟩, ⟨o, ho, r⟩, hne⟩ k
    exact ⟨⟨old, k e (by simp) _ he⟩, ⟨o, k it (by simp) o ho, r⟩, hne⟩
  item := by
    intro X hP hw hK hc i pins s σ H E I hf st hg
    subst hP hw hK
    obtain ⟨⟨old, he⟩, hit, hne⟩ := st
    have D : Draws X.prog X.w X.A.in1 it [it] x.cps.size (fun i v => ∃ c u, x.cps[i]? = some c ∧ v = .str ⟨#[c]⟩ u) (fun i h => h.IsStrIter it ty x t i) := by
      rcases hty with z | z
      · rw [z]; exact Draws.strAscii (A := X.A.in1) (I.ok.hd hc) it x t
      · rw [z]; exact Draws.strWide (A := X.A.in1) (I.ok.hd hc) it x t
    have hel : e < s.heap.objs.size := Heap.lt_size he
    have hil : it < s.heap.objs.size := by
      obtain ⟨_, q, _⟩ := hit
      exact Heap.lt_size q
    refine wpAny_pyNext_enum_itemD D he hit hg hne (by simpa using hne) fun u h' tk hu ho hit' hT hsz hk => ?_
    obtain ⟨c, tc, hcx, rfl⟩ := hu
    refine ⟨_, rfl, wpAny_letOwnedTupleGo_enum (s := { s with heap := h', toks := tk + 1 }) ho fun h2 he' sb => ?_⟩
    have g2 : h2.get? s.heap.objs.size = some { cls := .type "tuple", data := .seq #[.int i tk, .str ⟨#[c]⟩ tc] } := (sb.2 _ (Nat.ne_of_gt hel)).trans hT
    let no : HO := .tup [.int (i : Nat), .str ⟨#[c]⟩]
    have new : ObjOk X.prog X.w (upd H s.heap.objs.size no) h2 s.heap.objs.size no := ⟨by show 2 ≤ sizeLine; decide, [.int i tk, .str ⟨#[c]⟩ tc], .cons ⟨_, rfl⟩ (.cons ⟨_, rfl⟩ .nil), ⟨_, g2, rfl, _, rfl⟩⟩
    have kept : ∀ b ob, b ∉ [e, it] → s.heap.get? b = some ob → h2.get? b = some ob := fun b ob nb q => by
      simp only [List.mem_cons, List.not_mem_nil, or_false, not_or] at nb
      exact (sb.2 b nb.1).trans (hk b ob nb.1 nb.2 q)
    have I1 : Inv X pins σ (upd H s.heap.objs.size no) { s with heap := h2, toks := tk + 1 } := I.turnedNew (ch := [e, it]) kept hf (Nat.le_refl _) new
    have old' : ∀ b ∈ [e, it], b < s.heap.objs.size := fun b hb => by
      simp only [List.mem_cons, List.not_mem_nil, or_false] at hb
      rcases hb with rfl | rfl
      · exact hel
      · exact hil
    refine ⟨.ref s.heap.objs.size, _, I1, rfl, ⟨_, c, rfl, I.hok.fresh (Nat.le_refl _), rfl, hcx⟩, ⟨⟨_, by rw [show ((i + 1 : Nat) : Int) = (i : Int) + 1 by omega]; exact he'⟩, ?_, hne⟩, fun b hb => ?_⟩
    · obtain ⟨o, q, r⟩ := hit'
      exact ⟨o, (sb.2 it (Ne.symm hne)).trans q, r⟩
    · rw [upd_ne (Nat.ne_of_lt (old' b hb))]
      exact (hf b hb).1
  done := by
    intro X hP hw hK hc i pins s σ H E I hf st hg
    subst hP hw hK
    obtain ⟨⟨old, he⟩, hit, hne⟩ := st
    obtain ⟨f0, f1, f2, f3, f4, f5⟩ := hf it (by simp)
    have D : Draws X.prog X.w X.A.in1 it [it] x.cps.size (fun i v => ∃ c u, x.cps[i]? = some c ∧ v = .str ⟨#[c]⟩ u) (fun i h => h.IsStrIter it ty x t i) := by
      rcases hty with z | z
      · rw [z]; exact Draws.strAscii (A := X.A.in1) (I.ok.hd hc) it x t
      · rw [z]; exact Draws.strWide (A := X.A.in1) (I.ok.hd hc) it x t
    have hi : i = x.cps.size := hg
    subst hi
    exact wpAny_pyNext_enum_endD D he hit fun h' eb => ⟨rfl, I.turned (t' := s.toks) (fun b o hb q => eb b o hb q) f0 f1 f3 f4 f5⟩
  self := by
    rintro A i s Q E ⟨⟨_, he⟩, _⟩ h
    exact wpAny_pyIter_enum he h
def iEnumS (ta : TA) : TI := fun σ H R => ta σ H fun vs H1 => ∃ x, vs = [.str x] ∧ R (Itq x) H1
theorem pi_enumS {X : Cx} {e : Expr} {ta : TA} {p pos tpos : Pos} {elts : List Expr} {kk : Nat} (hg : Gl X "enumerate") (hm : X.mg "enumerate" = none) (ha : PA X [e] ta) (hs : starEach [e] X.env = [(false, eval e X.env)] := by rfl) :
    PI X (.Tuple elts kk tpos) (.Call (.Name "enumerate" p) [e] [] pos) (iEnumS ta) := by
  refine ⟨fun pins s σ H R I h => ?_⟩
  refine Call_ (ld_blt I hg hm boot_enumerate (PyProof.Rows.callWith_type1 (thn (ha.run pos pins s σ H _ I h) fun us s1 got => ?_) hs rfl))
  obtain ⟨vs, H1, I1, r1, x, rfl, q⟩ := got
  obtain ⟨u, rfl, t, rfl⟩ := vals1 r1
  refine call_enumerate_str fun h' he hit hsz hk => wpAny_pyIter_enum he ?_
  have I2 : Inv X pins σ H1 { s1 with heap := h' } := I1.kept (t' := s1.toks) hk
  have ty : strIterType x = "str_ascii_iterator" ∨ strIterType x = "str_iterator" := by
    unfold strIterType
    split
    · exact .inl rfl
    · exact .inr rfl
  refine ⟨s1.heap.objs.size + 1, [s1.heap.objs.size + 1, s1.heap.objs.size], _, _, H1, rfl, I2, turn_enumS x t (s1.heap.objs.size + 1) s1.heap.objs.size _ ty, ⟨⟨.none, he⟩, hit, Nat.succ_ne_self _⟩, fun b hb => ?_, q⟩
  have lo : s1.heap.objs.size ≤ b := by
    simp only [List.mem_cons, List.not_mem_nil, or_false] at hb
    rcases hb with rfl | rfl
    · exact Nat.le_succ _
    · exact Nat.le_refl _
  exact I1.fpOk lo (I1.hok.fresh lo)
section
variable {K : PySem.W.Frag}
theorem seq_enumS {w : Ws} (x : Str) : SeqIt K w (Itq x) (enumD (chrD x)) := fun w' o s => by
  have el : (enumD (chrD x)).length = x.cps.size := by unfold enumD chrD; rw [List.length_map, List.length_zipIdx, List.length_map]; rfl
  refine ⟨el, fun i d e => ?_⟩
  unfold enumD chrD at e
  rw [List.getElem?_map, List.getElem?_zipIdx, List.getElem?_map] at e
  cases q : x.cps.toList[i]? with
  | none => rw [q] at e; cases e
  | some c =>
    rw [q] at e
    simp only [Option.map_some, Option.some.injEq] at e
    subst e
    have q' : x.cps[i]? = some c := by rw [← Array.getElem?_toList]; exact q
    have hi : i < x.cps.size := (Array.getElem?_eq_some_iff.mp q').1
    refine ⟨hi, fun v H' hy => ?_⟩
    obtain ⟨T, c2, rfl, nT, rfl, hx⟩ := hy
    rw [q'] at hx
    cases hx
    have s2 := step_newV o nT (.tup [.int (i : Nat), .str ⟨#[c]⟩])
    refine ⟨w'.newV T (.tup [.int (i : Nat), .str ⟨#[c]⟩]), rfl, rfl, ok_newV o nT _, s2, .tup (show upd w'.F T _ T = _ from upd_same) (.cons ?_ (.cons (.str _) .nil))⟩
    rw [Nat.zero_add]
    exact .int _
end
section
variable {X : Cx} {E : XK} {e : Expr} {fs : FA} {pos : Pos}
def iES (f : FA) : FA := fun sl st => bnd (f sl st) fun ds st => match ds with
  | [.str x] => ret (enumD (chrD x)) st
  | _ => none
theorem mi_enumS {elts : List Expr} {kk : Nat} {tpos p : Pos} (ha : MA X E [e] fs) (hm : X.mg "enumerate" = none) (hg : Gl X "enumerate" := by rfl) (hs : starEach [e] X.env = [(false, eval e X.env)] := by rfl) : MI X E (.Tuple elts kk tpos) (.Call (.Name "enumerate" p) [e] [] pos) (iES fs) := by
  obtain ⟨t, p, q⟩ := ha.ex
  refine ⟨_, pi_enumS hg hm p hs, fun sl σ w R o s h => ?_⟩
  refine q sl σ w _ o s (post_bnd h fun vs ds w1 o1 s1 r hp => ?_)
  split at hp
  · rename_i x
    obtain ⟨v, rfl, rx⟩ := r.one_inv
    exact ⟨x, by rw [rx.str_inv], post_ret (rp := fun w J ds => SeqIt X.K w J ds) o1 (seq_enumS x) hp⟩
  · exact hp.elim
theorem ens_IES {sl : Sl} {st : Sto} {g : FA} {P : List D → Sto → Prop} (q : Ens (g sl st) fun ds st => ∃ x, ds = [.str x] ∧ P (enumD (chrD x)) st) : Ens (iES g sl st) P := ens_bnd (q.imp fun _ _ ⟨_, e, q⟩ => by subst e; exact ens_ret q)
end
end M

/-! instances of the text's classes as cells: fields, methods, their making -/
namespace M
open PySem PySem.Spec L2
def putFD (f : Str) (d : D) : List (Str × D) → List (Str × D)
  | [] => [(f, d)]
  | (g, x) :: r => if g = f then (g, d) :: r else (g, x) :: putFD f d r
section
variable {K : PySem.W.Frag} {F : Hp} {α : List Addr}
theorem fld_some {f : Str} {d : D} : ∀ {fs : List (Str × V)} {ds : List (Str × D)}, fs.map (·.1) = ds.map (·.1) → Reps K F α (fs.map (·.2)) (ds.map (·.2)) → ds.lookup f = some d → ∃ v, fs.lookup f = some v ∧ Rep K F α v d
  | [], [], _, _, h => by cases h
  | [], _ :: _, e, _, _ => by cases e
  | _ :: _, [], e, _, _ => by cases e
  | (g, v) :: fs, (g', y) :: ds, e, r, h => by
    simp only [List.map_cons, List.cons.injEq] at e
    obtain ⟨e1, e2⟩ := e
    subst e1
    cases r with
    | cons r1 r2 =>
      rw [List.lookup_cons] at h ⊢
      by_cases z : (f == g) = true
      · rw [z] at h ⊢
        cases h
        exact ⟨_, rfl, r1⟩
      · have z : (f == g) = false := by simpa using z
        rw [z] at h ⊢
        exact fld_some e2 r2 h
theorem fld_none {f : Str} : ∀ {fs : List (Str × V)} {ds : List (Str × D)}, fs.map (·.1) = ds.map (·.1) → ds.lookup f = none → fs.lookup f = none
  | [], _, _, _ => rfl
  | (g, v) :: fs, [], e, _ => by cases e
  | (g, v) :: fs, (g', y) :: ds, e, h => by
    simp only [List.map_cons, List.cons.injEq] at e
    obtain ⟨e1, e2⟩ := e
    subst e1
    rw [List.lookup_cons] at h ⊢
    by_cases z : (f == g) = true
    · rw [z] at h; cases h
    · have z : (f == g) = false := by simpa using z
      rw [z] at h ⊢
      exact fld_none e2 h
theorem fld_put {f : Str} {v : V} {d : D} (rv : Rep K F α v d) : ∀ {fs : List (Str × V)} {ds : List (Str × D)}, fs.map (·.1) = ds.map (·.1) → Reps K F α (fs.map (·.2)) (ds.map (·.2)) → (putF f v fs).map (·.1) = (putFD f d ds).map (·.1) ∧ Reps K F α ((putF f v fs).map (·.2)) ((putFD f d ds).map (·.2))
  | [], [], _, _ => ⟨rfl, .cons rv .nil⟩
  | [], _ :: _, e, _ => by cases e
  | _ :: _, [], e, _ => by cases e
  | (g, x) :: fs, (g', y) :: ds, e, r => by
    simp only [List.map_cons, List.cons.injEq] at e
    obtain ⟨e1, e2⟩ := e
    subst e1
    cases r with
    | cons r1 r2 =>
      unfold putF putFD
      by_cases z : g = f
      · rw [if_pos z, if_pos z]
        exact ⟨by simp only [List.map_cons, e2], .cons rv r2⟩
      · rw [if_neg z, if_neg z]
        obtain ⟨q1, q2⟩ := fld_put rv e2 r2
        exact ⟨by simp only [List.map_cons, q1], .cons r1 q2⟩
end
/-- an instance of the class at C: its cell and its fields -/
def insOf (C : Addr) (st : Sto) (x : D) : Option (Nat × List (Str × D)) := match x with
  | .ptr i => match st[i]? with
    | some (some (.ins C' fs)) => if C' = C then some (i, fs) else none
    | _ => none
  | _ => none
theorem insOf_some {C : Addr} {st : Sto} {x : D} {i : Nat} {fs : List (Str × D)} (h : insOf C st x = some (i, fs)) : x = .ptr i ∧ st[i]? = some (some (.ins C fs)) := by
  unfold insOf at h
  split at h
  · rename_i j
    split at h
    · rename_i C' fs' q
      by_cases z : C' = C
      · rw [if_pos z] at h
        cases h
        rw [← z]
        exact ⟨rfl, q⟩
      · rw [if_neg z] at h; cases h
    · cases h
  · cases h
theorem insOf_is {C : Addr} {st : Sto} {i : Nat} {fs : List (Str × D)} (h : st[i]? = some (some (.ins C fs))) : insOf C st (.ptr i) = some (i, fs) := by
  unfold insOf
  simp only [h, if_true]
theorem insOf_rep {K : PySem.W.Frag} {w : Ws} (o : Ok K w) {C : Addr} {v : V} {x : D} {i : Nat} {ds : List (Str × D)} (r : Rep K w.F w.al v x) (h : insOf C w.st x = some (i, ds)) :
    ∃ a dx fs, v = .ref a ∧ w.al[i]? = some a ∧ Live w.st i ∧ w.H a = some (.ins C dx fs) ∧ fs.map (·.1) = ds.map (·.1) ∧ Reps K w.F w.al (fs.map (·.2)) (ds.map (·.2)) := by
  obtain ⟨rfl, q⟩ := insOf_some h
  obtain ⟨a, e, ea, _, ca⟩ := cell_at o r q
  cases ca with
  | ins hx ek rs => exact ⟨a, _, _, e, ea, ⟨_, q⟩, hx, ek, rs⟩
/-- o.f -/
def mFld (C : Addr) (f : Str) (fo : FE) : FE := fun sl st => bnd (fo sl st) fun x st => match insOf C st x with
  | some (_, fs) => lift (fs.lookup f) st
  | none => none
/-- o.f = e -/
def sFldM (C : Addr) (f : Str) (fo fv : FE) : FS := fun sl st => bnd (fv sl st) fun v st => bnd (fo sl st) fun x st => match insOf C st x with
  | some (i, fs) => if fs.length < 1000 then ret (.nx sl) (st.set i (some (.ins C (putFD f v fs)))) else none
  | none => none
/-- o.f op= e -/
def sFldAugM (C : Addr) (f : Str) (fo fv : FE) (g : Sto → D → D → MM D) : FS := fun sl st => bnd (fo sl st) fun x st => match insOf C st x with
  | some (_, fs) => bnd (lift (fs.lookup f) st) fun y st => bnd (fv sl st) fun v st => bnd (g st y v) fun z st => match insOf C st x with
    | some (i, fs) => if fs.length < 1000 then ret (.nx sl) (st.set i (some (.ins C (putFD f z fs)))) else none
    | none => none
  | none => none
/-- o.m(..) -/
def mMeth (C : Addr) (m : Str) (c : List D → Sto → MM D) (fo : FE) (fs : FA) : FE := fun sl st => bnd (fo sl st) fun x st => match insOf C st x with
  | some (_, fd) => if (fd.lookup m).isNone = true then bnd (fs sl st) fun ds st => c (x :: ds) st else none
  | none => none
/-- C(..) -/
def mMake (C : Addr) (c : List D → Sto → MM D) (fs : FA) : FE := fun sl st => bnd (fs sl st) fun ds st => bnd (c (.ptr st.length :: ds) (st ++ [some (.ins C [])])) fun d st2 => match d with
  | .non => ret (.ptr st.length) st2
  | _ => none
section
variable {X : Cx} {E : XK} {K : PySem.W.Frag} {a b c e o i value : Expr} {es rest : List Expr} {fa fb fc fi fv fo : FE} {fs : FA} {pos apos cpos tpos p pos' : Pos} {C : Addr} {f m x : Str}
theorem me_fld (he : ME X E e fa) (c : Cls X.K C) (n : NoAttr X.K C f) (hb : attributeBase e f X.env (eval e X.env) = eval e X.env := by rfl) : ME X E (.Attribute e f pos) (mFld C f fa) := by
  obtain ⟨t, p, q⟩ := he.ex
  refine ⟨_, pe_fld p hb, fun sl σ w Q o s h => ?_⟩
  refine q sl σ w _ o s (post_bnd h fun v d w1 o1 s1 r1 hp => ?_)
  cases g : insOf C w1.st d with
  | none => simp only [g] at hp; exact hp.elim
  | some z =>
    obtain ⟨i, ds⟩ := z
    simp only [g] at hp
    obtain ⟨y, e1, hp⟩ := post_lift hp
    obtain ⟨a, dx, fs, rfl, _, _, hH, ek, rs⟩ := insOf_rep o1 r1 g
    obtain ⟨v, e2, rv⟩ := fld_some ek rs e1
    exact ⟨a, C, dx, fs, v, rfl, hH, c, n, e2, post_ret o1 rv hp⟩
theorem ms_fld (ho : ME X E o fo) (hv : ME X E value fv) (c : Cls X.K C) (n : NoAttr X.K C f) (hs : swapsWith value (some (.Attribute o f pos')) pos.line X.env = pure false := by rfl) : MS X E (.Assign [.Attribute o f pos'] value pos) (sFldM C f fo fv) := by
  obtain ⟨t, p, q⟩ := ho.ex
  obtain ⟨t2, p2, q2⟩ := hv.ex
  refine ⟨_, ps_fld p p2 hs, fun sl σ w D ok s h => ?_⟩
  refine q2 sl σ w _ ok s (post_bndS h fun v d w1 o1 s1 r1 h1 => ?_)
  refine q sl σ w1 _ o1 (s.step s1) (post_bndS h1 fun x dx w2 o2 s2 rx hp => ?_)
  have r1 := r1.mono s2.le s2.pre
  cases g : insOf C w2.st dx with
  | none => simp only [g] at hp; exact hp.elim
  | some z =>
    obtain ⟨i, ds⟩ := z
    simp only [g] at hp
    obtain ⟨hl, hp⟩ := postS_ite hp
    obtain ⟨a, dd, fs, rfl, ea, l, hH, ek, rs⟩ := insOf_rep o2 rx g
    have el : fs.length = ds.length := by have := congrArg List.length ek; simpa using this
    obtain ⟨q1, q2⟩ := fld_put (f := f) r1 ek rs
    have o3 := ok_put (u := .ins C dd (putF f v fs)) (c := .ins C (putFD f d ds)) o2 l ea (.ins upd_same q1 q2)
    have s3 := step_put o2 l ea (.ins C dd (putF f v fs)) (.ins C (putFD f d ds))
    exact ⟨a, C, dd, fs, rfl, hH, c, n, by omega, postS_ret o3 (PostS.step s3 hp) σ (((s.step s1).step s2).step s3)⟩
end
/-! ### calls -/
/-- a method of the text as a caller has it -/
structure CalM (P : Program) (w : World) (K : PySem.W.Frag) (mg : Str → Option Value) (base : Heap) (k : Nat) (C : Addr) (x : Str) (ps : List Str) (m : List D → Sto → MM D) : Prop where
  ex : ∃ (f : Addr) (fd : FuncData), FnOk P w K mg base CX0 k f fd ps (spM K ps.length m) ∧ Meth K C x f ∧ Binds K fd ps []
/-- .. that may raise -/
structure CalMX (P : Program) (w : World) (K : PySem.W.Frag) (mg : Str → Option Value) (base : Heap) (k : Nat) (C : Addr) (x : Str) (ps : List Str) (m : List D → Sto → MM D) : Prop where
  ex : ∃ (f : Addr) (fd : FuncData), FnOk P w K mg base (L2.CX P w) k f fd ps (spM K ps.length m) ∧ Meth K C x f ∧ Binds K fd ps []
/-- __init__ -/
structure CalI (P : Program) (w : World) (K : PySem.W.Frag) (mg : Str → Option Value) (base : Heap) (k : Nat) (C : Addr) (x : Str) (ps : List Str) (m : List D → Sto → MM D) : Prop where
  ex : ∃ (f : Addr) (fd : FuncData), FnOk P w K mg base CX0 k f fd ps (spM K ps.length m) ∧ Mk K C f ∧ mg x = some (.ref C) ∧ Binds K fd ps []
section
variable {X : Cx} {E : XK} {K : PySem.W.Frag} {a b c e o i value : Expr} {es rest : List Expr} {fa fb fc fi fv fo : FE} {fs : FA} {pos apos cpos tpos p pos' : Pos} {C : Addr} {f m x : Str} {k n : Nat} {ps : List Str} {md c : List D → Sto → MM D}
theorem ref_meth {to : TE} {ts : TA} {E0 : XK} (ho : RefE K E to fo) (ha : RefA K E ts fs) (hc : CallF K E n md c) : RefE K E (tMeth C m (spM K n md) [] E to ts) (mMeth C m c fo fs) := fun sl σ w Q ok s h => by
  refine ho sl σ w _ ok s (post_bnd h fun v d w1 o1 s1 r1 hp => ?_)
  cases g : insOf C w1.st d with
  | none => simp only [g] at hp; exact hp.elim
  | some z =>
    obtain ⟨i, ds⟩ := z
    simp only [g] at hp
    obtain ⟨hn, hp⟩ := post_ite hp
    obtain ⟨a, dx, gs, rfl, _, _, hH, ek, rs⟩ := insOf_rep o1 r1 g
    refine ⟨a, dx, gs, rfl, hH, fld_none ek (Option.isNone_iff_eq_none.mp hn), ?_⟩
    refine ha sl σ w1 _ o1 (s.step s1) (post_bnd hp fun vs ds w2 o2 s2 r2 h2 => ?_)
    rw [List.append_nil]
    exact hc w2 _ _ Q o2 (.cons (r1.mono s2.le s2.pre) r2) h2
theorem me_meth {pl : Sem Bool} (ho : ME X E o fo) (cl : Cls X.K C) (Mc : CalM X.prog X.w X.K X.mg X.base k C m ps md) (hc : CallF X.K E ps.length md c) (hr : Room k X.A) (ha : MA X E (e :: es) fs)
    (hst : starEach (e :: es) X.env = (false, eval e X.env) :: starEach es X.env := by rfl) (hpl : (backTo pos (starEach es X.env)).any (·.1) = false := by rfl)
    (ht : eval (.Call (.Attribute o m apos) (e :: es) [] pos) X.env = (do
      let ov ← eval o X.env
      standAt apos.atName
      let (f, first) ← holding [ov] (getMethod ov m pl)
      callWith pos f first (backTo pos (starEach (e :: es) X.env)) (backToKw pos (keywordEach [] X.env))) := by rfl) : ME X E (.Call (.Attribute o m apos) (e :: es) [] pos) (mMeth C m c fo fs) := by
  obtain ⟨f, fd, F, hm, hb⟩ := Mc.ex
  obtain ⟨t, p, q⟩ := ho.ex
  obtain ⟨t', p', q'⟩ := ha.ex
  exact ⟨_, pe_meth (pl := pl) p cl hm F hr hb .nil (fun _ _ _ _ _ _ _ h => h.elim) p' hst hpl ht, ref_meth (E0 := E) q q' hc⟩
theorem me_meth0 {pl : Sem Bool} (ho : ME X E o fo) (cl : Cls X.K C) (Mc : CalM X.prog X.w X.K X.mg X.base k C m ps md) (hc : CallF X.K E ps.length md c) (hr : Room k X.A)
    (ht : eval (.Call (.Attribute o m apos) [] [] pos) X.env = (do
      let ov ← eval o X.env
      standAt apos.atName
      let (f, first) ← holding [ov] (getMethod ov m pl)
      callWith pos f first (backTo pos (starEach [] X.env)) (backToKw pos (keywordEach [] X.env))) := by rfl) : ME X E (.Call (.Attribute o m apos) [] [] pos) (mMeth C m c fo mNil) := by
  obtain ⟨f, fd, F, hm, hb⟩ := Mc.ex
  obtain ⟨t, p, q⟩ := ho.ex
  exact ⟨_, pe_meth0 (pl := pl) p cl hm F hr hb .nil (fun _ _ _ _ _ _ _ h => h.elim) ht, ref_meth (E0 := E) q (fun sl σ w Q o s h => h [] w rfl o (Step.refl w) .nil) hc⟩
theorem me_methX {pl : Sem Bool} (ho : ME X E o fo) (cl : Cls X.K C) (Mc : CalMX X.prog X.w X.K X.mg X.base k C m ps md) (tk : Takes X fun c d _ H => E c d H) (hc : CallF X.K E ps.length md c) (hr : Room k X.A) (ha : MA X E (e :: es) fs)
    (hst : starEach (e :: es) X.env = (false, eval e X.env) :: starEach es X.env := by rfl) (hpl : (backTo pos (starEach es X.env)).any (·.1) = false := by rfl)
    (ht : eval (.Call (.Attribute o m apos) (e :: es) [] pos) X.env = (do
      let ov ← eval o X.env
      standAt apos.atName
      let (f, first) ← holding [ov] (getMethod ov m pl)
      callWith pos f first (backTo pos (starEach (e :: es) X.env)) (backToKw pos (keywordEach [] X.env))) := by rfl) : ME X E (.Call (.Attribute o m apos) (e :: es) [] pos) (mMeth C m c fo fs) := by
  obtain ⟨f, fd, F, hm, hb⟩ := Mc.ex
  obtain ⟨t, p, q⟩ := ho.ex
  obtain ⟨t', p', q'⟩ := ha.ex
  exact ⟨_, pe_meth (pl := pl) p cl hm F hr hb .nil (fun pins σ H s e s' I h => passes_call tk (fun _ _ _ _ h => h) pins σ H s e s' I h) p' hst hpl ht, ref_meth (E0 := E) q q' hc⟩
theorem me_methX0 {pl : Sem Bool} (ho : ME X E o fo) (cl : Cls X.K C) (Mc : CalMX X.prog X.w X.K X.mg X.base k C m ps md) (tk : Takes X fun c d _ H => E c d H) (hc : CallF X.K E ps.length md c) (hr : Room k X.A)
    (ht : eval (.Call (.Attribute o m apos) [] [] pos) X.env = (do
      let ov ← eval o X.env
      standAt apos.atName
      let (f, first) ← holding [ov] (getMethod ov m pl)
      callWith pos f first (backTo pos (starEach [] X.env)) (backToKw pos (keywordEach [] X.env))) := by rfl) : ME X E (.Call (.Attribute o m apos) [] [] pos) (mMeth C m c fo mNil) := by
  obtain ⟨f, fd, F, hm, hb⟩ := Mc.ex
  obtain ⟨t, p, q⟩ := ho.ex
  exact ⟨_, pe_meth0 (pl := pl) p cl hm F hr hb .nil (fun pins σ H s e s' I h => passes_call tk (fun _ _ _ _ h => h) pins σ H s e s' I h) ht, ref_meth (E0 := E) q (fun sl σ w Q o s h => h [] w rfl o (Step.refl w) .nil) hc⟩
theorem step_more {w : Ws} {a : Addr} {o : HO} (h : w.H a = none) : Step w (w.more a o) := by
  refine ⟨Pre.refl _, Le.refl _, fun b x e _ => ?_, fun b e _ _ => rfl, fun b e => ?_, fun b z => .inl z⟩
  · show upd w.H a o b = some x
    rw [upd_ne (ne_of_none e h)]; exact e
  · show upd w.H a o b ≠ none
    by_cases z : b = a
    · subst z; rw [upd_same]; exact Option.some_ne_none _
    · rw [upd_ne z]; exact e
theorem ref_make {ts : TA} (ha : RefA K E ts fs) (hc : CallF K E n md c) : RefE K E (tMake C (spM K n md) [] E ts) (mMake C c fs) := fun sl σ w Q ok s h => by
  refine ha sl σ w _ ok s (post_bnd h fun vs ds w1 o1 s1 r1 hp => ?_)
  intro x dx hx hdx ne
  rw [List.append_nil]
  have o2 := ok_more (o := .own x) o1 (free_F o1 hdx) (free_own o1 hdx)
  have s2 := step_more (w := w1) (o := .own x) hdx
  have hx2 : (w1.more dx (.own x)).H x = none := by
    show upd w1.H dx _ x = none
    rw [upd_ne fun z => ne z.symm]; exact hx
  have o3 := ok_newC (u := .ins C dx []) (c := .ins C []) o2 hx2 (.ins upd_same rfl .nil)
  have s3 := step_newC o2 hx2 (.ins C dx []) (.ins C [])
  refine hc ((w1.more dx (.own x)).newC x (.ins C dx []) (.ins C [])) _ _ _ o3 (.cons (ptr_new o2 _ _ _) ((r1.mono s2.le s2.pre).mono s3.le s3.pre)) ?_
  refine post_bnd (Post.step (s2.trans s3) hp) fun v d w4 o4 s4 r4 h4 => ?_
  cases d with
  | non =>
    refine ⟨r4.non_inv, ?_⟩
    exact post_ret o4 ((ptr_new o2 x (.ins C dx []) (.ins C [])).mono s4.le s4.pre) h4
  | _ => exact h4.elim
theorem me_make (Mc : CalI X.prog X.w X.K X.mg X.base k C x ps md) (hc : CallF X.K E ps.length md c) (hr : Room (k + 1) X.A) (ha : MA X E (e :: es) fs) (hg : Gl X x := by rfl) (hdb : (x == ("__debug__" : Str)) = false := by decide)
    (he : starEach (e :: es) X.env = (false, eval e X.env) :: starEach es X.env := by rfl) (hpl : (backTo pos (starEach es X.env)).any (·.1) = false := by rfl) : ME X E (.Call (.Name x p) (e :: es) [] pos) (mMake C c fs) := by
  obtain ⟨f, fd, F, hm, h2, hb⟩ := Mc.ex
  obtain ⟨t', p', q'⟩ := ha.ex
  exact ⟨_, pe_make hm F hr hg h2 hb .nil (fun _ _ _ _ _ _ _ h => h.elim) p' hdb he hpl, ref_make q' hc⟩
end
/-! ### runs -/
section
variable {Q : D → Sto → Prop} {P : List D → Sto → Prop} {N : Sl → Sto → Prop} {R : D → Sto → Prop} {sl : Sl} {st : Sto} {C : Addr} {f : Str} {fo fv : FE} {fs : FA} {c : List D → Sto → MM D} {k : Nat}
theorem ens_FLD (q : Ens (fo sl st) fun x st => ∃ i fs d, x = .ptr i ∧ st[i]? = some (some (.ins C fs)) ∧ fs.lookup f = some d ∧ Q d st) : Ens (mFld C f fo sl st) Q := ens_bnd (q.imp fun x st ⟨i, fs, d, e1, e2, e3, q⟩ => by
  subst e1
  simp only [insOf_is e2]
  exact ens_lift e3 q)
theorem ens_SFLD (q : Ens (fv sl st) fun v st => Ens (fo sl st) fun x st => ∃ i fs, x = .ptr i ∧ st[i]? = some (some (.ins C fs)) ∧ fs.length < 1000 ∧ N sl (st.set i (some (.ins C (putFD f v fs))))) : EnsS (sFldM C f fo fv sl st) N R := ens_bnd (q.imp fun v st q => ens_bnd (q.imp fun x st ⟨i, fs, e1, e2, e3, q⟩ => by
  subst e1
  simp only [insOf_is e2]
  exact ens_ite e3 (ens_ret q)))
theorem ens_METH (q : Ens (fo sl st) fun x st => ∃ i gs, x = .ptr i ∧ st[i]? = some (some (.ins C gs)) ∧ gs.lookup f = none ∧ Ens (fs sl st) fun ds st => Ens (c (.ptr i :: ds) st) Q) : Ens (mMeth C f c fo fs sl st) Q := ens_bnd (q.imp fun x st ⟨i, gs, e1, e2, e3, q⟩ => by
  subst e1
  simp only [insOf_is e2]
  exact ens_ite (by rw [e3]; rfl) (ens_bnd q))
theorem ens_MAKE (q : Ens (fs sl st) fun ds st => Ens (c (.ptr st.length :: ds) (st ++ [some (.ins C [])])) fun d st2 => d = .non ∧ Q (.ptr st.length) st2) : Ens (mMake C c fs sl st) Q := ens_bnd (q.imp fun ds st q => ens_bnd (q.imp fun d st2 ⟨e, q⟩ => by subst e; exact ens_ret q))
theorem ens_callA {m : List D → Sto → MM D} {ds : List D} (hl : ds.length = k) (q : Ens (m ds st) Q) : Ens (callA k m ds st) Q := ens_ite hl q
end
end M

/-! a list unpacked into names; xs[::-1]; replace of written texts -/
namespace M
open PySem PySem.Spec L2
section
variable {X : Cx} {E : XK} {K : PySem.W.Frag} {a b c e o : Expr} {es rest : List Expr} {fa fb fc : FE} {fs : FA} {pos apos p : Pos}
def gTpL (n : Nat) (r : FGs) : FG := fun d sl st => match lstOf st d with
  | some ds => if ds.length = n then r ds sl st else none
  | none => none
theorem mg_unl {k : Nat} {gr : FGs} {n : Nat} (hc : X.calm = true) (h : MGs X E es gr) (hn : (assignEach es X.env).length = n := by rfl) (hst : (assignEach es X.env).findIdx? (·.1) = none := by rfl) : MG X E (.Tuple es k pos) (gTpL n gr) := by
  obtain ⟨t, q, r⟩ := h.ex
  refine ⟨_, pg_unl hc q hn hst, fun v d sl σ w Q o rv s hq => ?_⟩
  have hq : Post X.K E _ w (match lstOf w.st d with
    | some ds => if ds.length = n then gr ds sl w.st else none
    | none => none) _ := hq
  cases g : lstOf w.st d with
  | none => rw [g] at hq; exact hq.elim
  | some ds =>
    rw [g] at hq
    obtain ⟨hl, hq⟩ := post_ite (p := ds.length = n) hq
    obtain ⟨a, xs, rfl, f, rs⟩ := lstOf_rep o rv g
    exact ⟨a, xs, rfl, f, by rw [rs.length]; exact hl, r xs ds sl σ w Q o rs s hq⟩
def mRevL (c : Bool) (f : FE) : FE := fun sl st => bnd (f sl st) fun x st => match lstOf st x with
  | some ds => mkL c ds.reverse st
  | none => none
theorem me_revL (c : Bool) {k : Nat} {p1 p2 p3 : Pos} (he : ME X E e fa) : ME X E (.Subscript e (.Slice none none (some (.UnaryOp .USub (.Constant (.int 1) k p1) p2)) p3) pos) (mRevL c fa) := by
  obtain ⟨t, p, q⟩ := he.ex
  refine ⟨_, pe_revL p, fun sl σ w Q o s h => ?_⟩
  refine q sl σ w _ o s (post_bnd h fun v d w1 o1 s1 r1 hp => ?_)
  cases g : lstOf w1.st d with
  | none => rw [g] at hp; exact hp.elim
  | some ds =>
    rw [g] at hp
    obtain ⟨a, xs, rfl, hx, rs⟩ := lstOf_rep o1 r1 g
    exact ⟨a, xs, rfl, hx, fun p np => post_mkL o1 hp np rs.reverse⟩
/-! behind a written number a token is out -/
def PEt (X : Cx) (e : Expr) (te : TE) : Prop := ∀ (pins : List (Addr × Obj)) (s : Shared) (σ : L2.St) (H : Hp) (Q : VK), L2.Inv X pins σ H s → te σ H Q → wpAny (model X.prog X.w) X.A (eval e X.env) (fun v s' => 1 ≤ s'.toks ∧ EP X pins σ Q v s') X.xe s
theorem pet_int {i : Int} {j : Nat} : PEt X (.Constant (.int i) j pos) (tC (.int i)) := fun _ s _ H _ I h => wpAny_Constant_int ⟨by show 1 ≤ s.toks + 1; omega, .int i, H, I.tok _, ⟨_, rfl⟩, h⟩
theorem pet_opR {op : Operator} {r : R2} {ta tb : TE} (ho : OpR X (binaryOp op) r) (ha : PE X a ta) (hb : PEt X b tb) : PEt X (.BinOp a op b pos) (tOp r ta tb) := fun pins s σ H Q I h => by
  refine wpAny_BinOp (L2.thn (ha.run pins s σ H _ I h) fun v s1 ⟨x, H1, I1, r1, q1⟩ => ?_)
  refine wpAny_mono (hb pins s1 σ H1 _ I1 q1) (fun u s2 ⟨z, y, H2, I2, r2, q2⟩ => ?_) fun _ _ z => z
  exact wpAny_mono (wpAny_toks_of z (ho pins s2 σ H2 x y v u Q I2 r1 r2 q2)) (fun _ _ z => z) fun _ _ z => z.2
theorem pet_ixR {r : R2} {ta tb : TE} (hr : IxR X r) (ha : PE X a ta) (hb : PEt X b tb) (hs : PlainIx b) : PEt X (.Subscript a b pos) (tOp r ta tb) := fun pins s σ H Q I h => by
  refine PyProof.Rows.Subscript_ (L2.thn (ha.run pins s σ H _ I h) fun v s1 ⟨x, H1, I1, r1, q1⟩ => ?_)
  refine wpAny_mono (hb pins s1 σ H1 _ I1 q1) (fun u s2 ⟨z, y, H2, I2, r2, q2⟩ => ?_) fun _ _ z => z
  exact wpAny_mono (wpAny_toks_of z (hr a b pins s2 σ H2 x y v u Q I2 r1 r2 q2 (hs _ _))) (fun _ _ z => z) fun _ _ z => z.2
theorem pe_replK {to : TE} {y z : Str} {j k : Nat} {c0 c1 : Pos} (ho : PEt X o to) (hyz : (y == z) = false)
    (hst : starEach [.Constant (.str y) j c0, .Constant (.str z) k c1] X.env = [(false, eval (.Constant (.str y) j c0) X.env), (false, eval (.Constant (.str z) k c1) X.env)])
    (hbase : attributeBase o "replace" X.env (eval o X.env) = eval o X.env) (hline : (apos.endLine == pos.line) = true) :
    PE X (.Call (.Attribute o "replace" apos) [.Constant (.str y) j c0, .Constant (.str z) k c1] [] pos) (CwR.tReplC to y z) := by
  refine ⟨fun pins s σ H Q I h => ?_⟩
  refine PySem.Call_method2 hbase hst hline (wpAny_mono (ho pins s σ H _ I h) (fun v s1 q => ?_) fun _ _ z => z)
  obtain ⟨hk, v', H1, I1, r1, x, e1, hb, q⟩ := q
  subst e1
  obtain ⟨tx, e2⟩ := r1
  subst e2
  refine ⟨"str", _, PySem.F.plainAttrs_str, PySem.F.slot_str_replace, PySem.F.type_str_replace, typeIs_str _ _ _, (fun _ e => nomatch e), Calls.callWith_builtin rfl (Calls.evalArgs_plain (Calls.spliced_cons ?_))⟩
  refine Calls.Constant_str (Calls.spliced_cons (Calls.Constant_str (Calls.spliced_nil ?_)))
  exact PySem.SC.replace (by show s1.toks ≠ 0; omega) (by show s1.toks + 1 ≠ 0; omega) (by show s1.toks ≠ s1.toks + 1; omega) hyz hb fun t' k => ⟨.str (Txt.replace x y z), H1, I1.tok k, ⟨t', rfl⟩, q⟩
def gIxL : Sto → D → D → MM D := fun st x y => match y with
  | .int i => match lstOf st x with
    | some ds => lift (atI ds i) st
    | none => none
  | _ => none
theorem rf_ixL : Rf2 K E (rIxL K) gIxL := fun x y dx dy w Q o rx ry hp => by
  cases dy with
  | int i =>
    have hp : Post K E (rD K) w (match lstOf w.st dx with
      | some ds => lift (L2.atI ds i) w.st
      | none => none) Q := hp
    cases h1 : lstOf w.st dx with
    | none => rw [h1] at hp; exact hp.elim
    | some ds =>
      rw [h1] at hp
      obtain ⟨d, ed, hp⟩ := post_lift hp
      obtain ⟨p, xs, rfl, hx, rs⟩ := lstOf_rep o rx h1
      obtain ⟨v, ev, rv⟩ := rs.atI ed
      exact ⟨p, xs, i, v, rfl, ry.int_inv, hx, ev, post_ret o rv hp⟩
  | _ => exact hp.elim
/-- a text's replace of written texts -/
def mRepl (y z : Str) (f : FE) : FE := fun sl st => bnd (f sl st) fun v st => match v with
  | .str x => if x.length + (x.length + 1) * z.length ≤ 16777216 then ret (.str (Txt.replace x y z)) st else none
  | _ => none
/-- xs[l - 3].replace("..", "..") -/
theorem me_replIx {l : Expr} {fl : FE} {i : Int} {y z : Str} {j j1 k : Nat} {c0 c1 c2 p1 p2 : Pos} (ha : ME X E a fa) (hl : ME X E l fl) (hyz : (y == z) = false := by decide) (hs : PlainIx (.BinOp l .Sub (.Constant (.int i) j1 c2) p1) := by exact fun _ _ => rfl)
    (hst : starEach [.Constant (.str y) j c0, .Constant (.str z) k c1] X.env = [(false, eval (.Constant (.str y) j c0) X.env), (false, eval (.Constant (.str z) k c1) X.env)] := by rfl)
    (hbase : attributeBase (.Subscript a (.BinOp l .Sub (.Constant (.int i) j1 c2) p1) p2) "replace" X.env (eval (.Subscript a (.BinOp l .Sub (.Constant (.int i) j1 c2) p1) p2) X.env) = eval (.Subscript a (.BinOp l .Sub (.Constant (.int i) j1 c2) p1) p2) X.env := by rfl) (hline : (apos.endLine == pos.line) = true := by rfl) :
    ME X E (.Call (.Attribute (.Subscript a (.BinOp l .Sub (.Constant (.int i) j1 c2) p1) p2) "replace" apos) [.Constant (.str y) j c0, .Constant (.str z) k c1] [] pos) (mRepl y z (mBin gIxL fa (mBin gSub fl (mC (.int i))))) := by
  obtain ⟨ta, p, q⟩ := ha.ex
  obtain ⟨tl, p', q'⟩ := hl.ex
  refine ⟨_, pe_replK (pet_ixR ix_list p (pet_opR op_sub p' pet_int) hs) hyz hst hbase hline, fun sl σ w Q o s h => ?_⟩
  refine ref_bin rf_ixL q (ref_bin (rf_I0 fun i j F α => .int _) q' (ref_c fun _ _ => .int i)) sl σ w _ o s (post_bnd h fun v d w1 o1 s1 r1 hp => ?_)
  cases d with
  | str x =>
    obtain ⟨hb, hp⟩ := post_ite hp
    exact ⟨x, r1.str_inv, hb, post_ret o1 (.str _) hp⟩
  | _ => exact hp.elim
end
/-! ### [x] * n -/
section
variable {X : Cx} {E : XK} {K : PySem.W.Frag} {a b : Expr} {fa fb : FE} {pos : Pos}
def gRep (c : Bool) : Sto → D → D → MM D := fun st x y => match lstOn st x, y with
  | some ds, .int k => if -(2 ^ 63) ≤ k ∧ k < 2 ^ 63 ∧ ds.length * k.toNat ≤ sizeLine then mkL c (List.replicate k.toNat ds).flatten st else none
  | _, _ => none
theorem Reps.rep {F : Hp} {α : List Addr} {vs : List V} {ds : List D} (r : Reps K F α vs ds) : ∀ n : Nat, Reps K F α (List.replicate n vs).flatten (List.replicate n ds).flatten
  | 0 => .nil
  | n + 1 => by
    rw [List.replicate_succ, List.replicate_succ, List.flatten_cons, List.flatten_cons]
    exact r.append (Reps.rep r n)
theorem me_rep (c : Bool) (ha : ME X E a fa) (hb : ME X E b fb) : ME X E (.BinOp a .Mult b pos) (mBin (gRep c) fa fb) := me_bin op_rep (fun x y dx dy w Q o rx ry hp => by
  unfold gRep at hp
  cases h1 : lstOn w.st dx with
  | none => rw [h1] at hp; exact hp.elim
  | some ds =>
    rw [h1] at hp
    cases dy with
    | int k =>
      obtain ⟨⟨k1, k2, k3⟩, hp⟩ := post_ite hp
      obtain ⟨p, xs, rfl, hx, rs⟩ := lstOn_rep o rx h1
      exact ⟨p, k, xs, rfl, ry.int_inv, hx, k1, k2, by rw [rs.length]; exact k3, fun l nl => post_mkL o hp nl (rs.rep _)⟩
    | _ => exact hp.elim) ha hb
end
/-! ### runs -/
section
variable {Q : D → Sto → Prop} {sl : Sl} {st : Sto} {f : FE}
theorem ens_REV {c : Bool} (q : Ens (f sl st) fun x st => ∃ ds, lstOf st x = some ds ∧ Ens (mkL c ds.reverse st) Q) : Ens (mRevL c f sl st) Q := ens_bnd (q.imp fun x st ⟨ds, e, q⟩ => by simp only [e]; exact q)
theorem ens_REPL {y z : Str} (q : Ens (f sl st) fun v st => ∃ x, v = .str x ∧ x.length + (x.length + 1) * z.length ≤ 16777216 ∧ Q (.str (Txt.replace x y z)) st) : Ens (mRepl y z f sl st) Q := ens_bnd (q.imp fun v st ⟨x, e, h, q⟩ => by subst e; exact ens_ite h (ens_ret q))
theorem ens_rep {c : Bool} {x : D} {ds : List D} {k : Int} (e : lstOn st x = some ds) (h : 0 ≤ k ∧ k ≤ 100000 ∧ ds.length ≤ 10) (q : Ens (mkL c (List.replicate k.toNat ds).flatten st) Q) : Ens (gRep c st x (.int k)) Q := by
  show Ens (match lstOn st x, (D.int k) with
    | some ds, .int k => if -(2 ^ 63) ≤ k ∧ k < 2 ^ 63 ∧ ds.length * k.toNat ≤ sizeLine then mkL c (List.replicate k.toNat ds).flatten st else none
    | _, _ => none) Q
  rw [e]
  refine ens_ite ⟨by omega, by omega, ?_⟩ q
  have : ds.length * k.toNat ≤ 10 * 100000 := Nat.mul_le_mul (by omega) (by omega)
  unfold PySem.sizeLine; omega
theorem en_gTpL {N : Sl → Sto → Prop} {n : Nat} {r : FGs} {d : D} {ds : List D} (e : lstOf st d = some ds) (h : ds.length = n) (q : Ens (r ds sl st) N) : Ens (gTpL n r d sl st) N := by
  show Ens (match lstOf st d with
    | some ds => if ds.length = n then r ds sl st else none
    | none => none) N
  rw [e]
  exact ens_ite h q
end
end M

/-! enumerate over a list or the empty tuple -/
namespace M
open PySem PySem.Spec L2
set_option maxHeartbeats 1000000 in
theorem meets_enum1 {v : Value} {o : Obj} {H : Heap → Prop} (B : Begins v o H) :
    Meets (Builtin.«enumerate.__new__» ⟨[.type "enumerate", v], []⟩) (fun _ R s => H s.heap ∧
      R (.ok (.ret (.ref (s.heap.push o).objs.size))) { s with heap := (s.heap.push o).push { cls := .type "enumerate", data := .fields #[.none, .bool false, .ref s.heap.objs.size, rawInt 0, .none, .none] } }) :=
  .of_wp fun prog w A R s h => by
    obtain ⟨hp, g, d, tk, os⟩ := s; obtain ⟨h1, h⟩ := h
    have hsub := sub_enumerate
    have q1 : ∀ {A' : Around} {E : Value → Shared → Prop} {Q : Value → Shared → Prop}, Q (.ref hp.objs.size) ⟨hp.push o, g, d, tk, os⟩ → wpAny (model prog w) A' (pyIter v) Q E ⟨hp, g, d, tk, os⟩ :=
      fun q => B.iter prog w _ _ ⟨hp, g, d, tk, os⟩ _ h1 q
    wp_walk using q1
    refine wpAny_stack_any fun st => wpAny_pure ?_
    split
    · rename_i c _ _ _ _ _
      cases (c == Value.type "enumerate")
      · wp_walk using q1
        exact ⟨_, rfl, h⟩
      · wp_walk using q1
        exact ⟨_, rfl, h⟩
    · wp_walk using q1
      exact ⟨_, rfl, h⟩
section
variable {prog : Program} {w : World} {A : Around} {E : Value → Shared → Prop} {s : Shared}
theorem call_enum1 {v : Value} {o : Obj} {H : Heap → Prop} {Q : Value → Shared → Prop} (B : Begins v o H) (h1 : H s.heap)
    (h : ∀ h', IsEnum h' (s.heap.objs.size + 1) s.heap.objs.size 0 .none → h'.get? s.heap.objs.size = some o → h'.objs.size = s.heap.objs.size + 2 →
      (∀ b o, s.heap.get? b = some o → h'.get? b = some o) → Q (.ref (s.heap.objs.size + 1)) { s with heap := h' }) :
    wpAny (model prog w) A (call (.type "enumerate") [v]) Q E s := by
  refine callType_new F.called_enumerate (by decide) (F.typeCall_enumerate_1 _) (F.newCall_enumerate_1 _) (fun obj => F.args_object_init_2 obj _) F.entry_enumerate_new
    (meets_enum1 B) ⟨h1, ?_⟩
  have hz : (s.heap.push o).objs.size = s.heap.objs.size + 1 := Heap.size_push ..
  show _ ∧ _
  rw [hz]
  have he : IsEnum ((s.heap.push o).push { cls := .type "enumerate", data := .fields #[.none, .bool false, .ref s.heap.objs.size, rawInt 0, .none, .none] }) (s.heap.objs.size + 1) s.heap.objs.size 0 .none := by
    have := Heap.get?_push_size (s.heap.push o) (o := { cls := .type "enumerate", data := .fields #[.none, .bool false, .ref s.heap.objs.size, rawInt 0, .none, .none] }) rfl
    rw [hz] at this; exact this
  refine ⟨⟨_, he, rfl⟩, h _ he (Heap.get?_push_of_some _ (Heap.get?_push_size _ B.free)) (by rw [Heap.size_push, hz]) fun b o x => Heap.get?_push_of_some _ (Heap.get?_push_of_some _ x)⟩
end
/-- nothing to walk: the empty tuple at t -/
def It0 (K : PySem.W.Frag) (t : Addr) : It := ⟨fun _ _ => False, fun _ _ _ _ => False, fun i H => i = 0 ∧ SqT K H t []⟩
theorem turn_enum0 {P : Program} {w : World} {K : PySem.W.Frag} {elts : List Expr} {kk : Nat} {tpos : Pos} (t e it : Addr) :
    Turn P w K (.Tuple elts kk tpos) (It0 K t) [e, it] e (fun i h => (∃ old, IsEnum h e it ((i : Nat) : Int) old) ∧ h.IsTupleIter it t i ∧ e ≠ it) where
  mem := by simp
  obj := by
    rintro i h ⟨⟨old, he⟩, ⟨o, ho, hc, hd⟩, _⟩ b hb
    simp only [List.mem_cons, List.not_mem_nil, or_false] at hb
    rcases hb with rfl | rfl
    · exact ⟨_, he, fun v q => nomatch q⟩
    · exact ⟨o, ho, fun v q => by rw [hd] at q; cases q⟩
  keep := by
    rintro i h h' ⟨⟨old, he⟩, ⟨o, ho, r⟩, hne⟩ k
    exact ⟨⟨old, k e (by simp) _ he⟩, ⟨o, k it (by simp) o ho, r⟩, hne⟩
  item := by
    intro X hP hw hK hc i pins s σ H E I hf st hg
    exact hg.elim
  done := by
    intro X hP hw hK hc i pins s σ H E I hf st hg
    subst hP hw hK
    obtain ⟨⟨old, he⟩, hit, hne⟩ := st
    obtain ⟨f0, f1, f2, f3, f4, f5⟩ := hf it (by simp)
    obtain ⟨hi, hq⟩ := hg
    subst hi
    obtain ⟨its, rv, ht, _⟩ := I.tuple hq
    cases rv
    have n2 : t ≠ it := by
      rintro rfl
      obtain ⟨o, e1, c1, _⟩ := ht
      obtain ⟨o', e2, c2, _⟩ := hit
      rw [e1] at e2
      cases e2
      rw [c1] at c2
      exact absurd c2 (by decide)
    have D := Draws.tuple (prog := X.prog) (w := X.w) (A := X.A.in1) (I.ok.hd hc) it t n2 #[]
    exact wpAny_pyNext_enum_endD D he ⟨hit, ht⟩ fun h' eb => ⟨rfl, I.turned (t' := s.toks) (fun b o hb q => eb b o hb q) f0 f1 f3 f4 f5⟩
  self := by
    rintro A i s Q E ⟨⟨_, he⟩, _⟩ h
    exact wpAny_pyIter_enum he h
def iEnum0 (K : PySem.W.Frag) (ta : TA) : TI := fun σ H R => ta σ H fun vs H1 => ∃ t, vs = [.ref t] ∧ SqT K H1 t [] ∧ R (It0 K t) H1
theorem pi_enum0 {X : Cx} {e : Expr} {ta : TA} {p pos tpos : Pos} {elts : List Expr} {kk : Nat} (hg : Gl X "enumerate") (hm : X.mg "enumerate" = none) (ha : PA X [e] ta) (hs : starEach [e] X.env = [(false, eval e X.env)] := by rfl) :
    PI X (.Tuple elts kk tpos) (.Call (.Name "enumerate" p) [e] [] pos) (iEnum0 X.K ta) := by
  refine ⟨fun pins s σ H R I h => ?_⟩
  refine PyProof.Rows.Call_ (ld_blt I hg hm PyProof.Rows.boot_enumerate (PyProof.Rows.callWith_type1 (L2.thn (ha.run pos pins s σ H _ I h) fun us s1 got => ?_) hs rfl))
  obtain ⟨vs, H1, I1, r1, t, rfl, hq, q⟩ := got
  cases r1 with
  | cons r rr =>
    cases rr
    cases r
    obtain ⟨its, rv, ht, _⟩ := I1.tuple hq
    cases rv
    refine call_enum1 (begins_tuple t #[]) ht fun h' he hit hsz hk => wpAny_pyIter_enum he ?_
    have I2 : L2.Inv X pins σ H1 { s1 with heap := h' } := I1.kept (t' := s1.toks) hk
    refine ⟨s1.heap.objs.size + 1, [s1.heap.objs.size + 1, s1.heap.objs.size], _, _, H1, rfl, I2, turn_enum0 t (s1.heap.objs.size + 1) s1.heap.objs.size, ⟨⟨.none, he⟩, ⟨_, hit, rfl, rfl⟩, Nat.succ_ne_self _⟩, fun b hb => ?_, q⟩
    have lo : s1.heap.objs.size ≤ b := by
      simp only [List.mem_cons, List.not_mem_nil, or_false] at hb
      rcases hb with rfl | rfl
      · exact Nat.le_succ _
      · exact Nat.le_refl _
    exact I1.fpOk lo (I1.hok.fresh lo)
theorem seq_enum0 {K : PySem.W.Frag} {w : Ws} {t : Addr} (h : w.F t = some (.tup [])) : SeqIt K w (It0 K t) [] := fun w' o s => ⟨⟨rfl, SqT.of (o.sub _ _ (s.le.tup _ _ h))⟩, fun i d e => by cases e⟩
section
variable {X : Cx} {E : XK} {e : Expr} {fs : FA} {pos : Pos}
/-- a list, or the empty tuple -/
def iE2 (f : FA) : FA := fun sl st => bnd (f sl st) fun ds st => match ds with
  | [.tup []] => ret [] st
  | [x] => match seqOf x with
    | some ds => ret (enumD ds) st
    | none => none
  | _ => none
theorem mi_enum2 {elts : List Expr} {kk : Nat} {tpos p : Pos} (ha : MA X E [e] fs) (hm : X.mg "enumerate" = none) (hg : Gl X "enumerate" := by rfl) (hs : starEach [e] X.env = [(false, eval e X.env)] := by rfl) : MI X E (.Tuple elts kk tpos) (.Call (.Name "enumerate" p) [e] [] pos) (iE2 fs) := by
  obtain ⟨t1, p1, q1⟩ := (mi_enum (elts := elts) (kk := kk) (tpos := tpos) (p := p) (pos := pos) ha hm hg hs).ex
  obtain ⟨t, p, q⟩ := ha.ex
  refine ⟨_, PI.or p1 (pi_enum0 hg hm p hs), fun sl σ w R o s h => ?_⟩
  have h : Post X.K E (fun w J ds => SeqIt X.K w J ds) w (bnd (fs sl w.st) fun ds st => match ds with
    | [.tup []] => ret [] st
    | [x] => match seqOf x with
      | some ds => ret (enumD ds) st
      | none => none
    | _ => none) R := h
  by_cases hz : ∃ st, fs sl w.st = some (.ok [.tup []] st)
  · refine .inr (q sl σ w _ o s ?_)
    obtain ⟨st, ez⟩ := hz
    rw [ez] at h ⊢
    intro vs w1 e1 o1 s1 r1
    obtain ⟨v, rfl, rx⟩ := r1.one_inv
    obtain ⟨a, xs, rfl, f, rs⟩ := rx.tup_inv
    cases rs
    refine ⟨a, rfl, SqT.of (o1.sub _ _ f), ?_⟩
    exact h _ w1 e1 o1 s1 (seq_enum0 f)
  · refine .inl (q1 sl σ w R o s ?_)
    have e : iE fs sl w.st = bnd (fs sl w.st) fun ds st => match ds with
      | [.tup []] => ret [] st
      | [x] => match seqOf x with
        | some ds => ret (enumD ds) st
        | none => none
      | _ => none := by
      unfold iE
      match g : fs sl w.st with
      | none => rfl
      | some (.exc _ _) => rfl
      | some (.ok ds st) =>
        match ds with
        | [] => rfl
        | [.tup []] => exact absurd ⟨st, g⟩ hz
        | [.tup (_ :: _)] => rfl
        | [.non] => rfl
        | [.bl _] => rfl
        | [.int _] => rfl
        | [.str _] => rfl
        | [.lst _] => rfl
        | [.dct _] => rfl
        | [.dcT _] => rfl
        | [.ptr _] => rfl
        | [.scr _] => rfl
        | [.gtp _] => rfl
        | [.fnc _] => rfl
        | x :: _ :: _ => cases x with
          | tup l => cases l <;> rfl
          | _ => rfl
    rw [e]
    exact h
theorem ens_IE2 {sl : Sl} {st : Sto} {g : FA} {P : List D → Sto → Prop} (q : Ens (g sl st) fun ds st => (ds = [.tup []] ∧ P [] st) ∨ ∃ es, ds = [.lst es] ∧ P (enumD es) st) : Ens (iE2 g sl st) P := ens_bnd (q.imp fun ds _ q => by
  rcases q with ⟨e, q⟩ | ⟨es, e, q⟩
  · subst e; exact ens_ret q
  · subst e; exact ens_ret q)
end
end M

/-! tuples of the module, dicts written out, copied, shortened, sorted; all; tuple(xs); tuples joined -/
namespace M
open PySem PySem.Spec PyProof.Rows L2
/-! a tuple of texts of the module -/
def gtB (ss : List Str) (its : Array Value) : Bool := decide (its.size ≤ sizeLine) && (its.toList.map absV == ss.map fun s => some (V.str s))
theorem vals_abs : ∀ {ss : List Str} {us : List Value}, us.map absV = ss.map (fun s => some (V.str s)) → Vals (ss.map V.str) us
  | [], [], _ => .nil
  | [], _ :: _, h => by cases h
  | _ :: _, [], h => by cases h
  | s :: ss, u :: us, h => by
    injection h with h1 h2
    refine .cons ?_ (vals_abs h2)
    cases u with
    | str x t => injection h1 with h1; injection h1 with h1; subst h1; exact ⟨t, rfl⟩
    | _ => cases h1
theorem gt_of {K : PySem.W.Frag} {a : Addr} {od : Option Addr} {its : Array Value} {n : Nat} {sl : Array (Option Value)} {ss : List Str} (l : K.lookup a = some ⟨.type "tuple", od, .seq its n, sl⟩) (h : gtB ss its = true) : GT K a (ss.map V.str) := fun H => by
  unfold gtB at h
  rw [Bool.and_eq_true, decide_eq_true_eq, beq_iff_eq] at h
  exact .inr ⟨_, its, n, l, rfl, rfl, h.1, vals_abs h.2⟩
section
variable {X : Cx} {E : XK} {K : PySem.W.Frag} {a b c e o : Expr} {es rest : List Expr} {fa fb fc fo fi fx : FE} {fs : FA} {pos apos cpos p : Pos}
theorem me_gT {x : Str} {ss : List Str} (h : ∃ a, X.mg x = some (.ref a) ∧ GT X.K a (ss.map V.str)) (hg : Gl X x := by rfl) (hd : (x == ("__debug__" : Str)) = false := by decide) : ME X E (.Name x pos) (mC (.gtp (ss.map D.str))) := by
  obtain ⟨a, e, h⟩ := h
  exact ⟨_, pe_glob hg e (show RelV (.ref a) (.ref a) from rfl) hd, ref_c fun F α => .gtp h (reps_strs ss)⟩
def iG (f : FE) : FA := fun sl st => bnd (f sl st) fun d st => match d with
  | .gtp ds => ret ds st
  | _ => none
theorem seq_gt {w : Ws} {a : Addr} {xs : List V} {ds : List D} (h : GT K a xs) (r : Reps K w.F w.al xs ds) : SeqIt K w (Itt K a) ds := fun w' o s => by
  have h' : SqT K w'.H a xs := h _
  refine ⟨⟨xs, h', Nat.le_of_eq r.length⟩, fun i d e => ?_⟩
  obtain ⟨v, e1, e2⟩ := r.get e
  refine ⟨⟨xs, v, h', e1⟩, fun x H' hy => ?_⟩
  obtain ⟨rfl, hx⟩ := hy
  have ex : x = v := Option.some.inj ((hx xs h').symm.trans e1)
  subst ex
  exact ⟨w', rfl, rfl, o, Step.refl _, e2.mono s.le s.pre⟩
theorem mi_gtp {tg : Expr} (h : ME X E e fa) : MI X E tg e (iG fa) := by
  obtain ⟨t, p, q⟩ := h.ex
  refine ⟨_, pi_tup p, fun sl σ w R o s h => ?_⟩
  refine q sl σ w _ o s (post_bnd h fun v d w1 o1 s1 r hp => ?_)
  cases d with
  | gtp ds =>
    obtain ⟨a, xs, rfl, f, rs⟩ := r.gtp_inv
    exact ⟨a, rfl, ⟨xs, f _⟩, post_ret (rp := fun w J ds => SeqIt X.K w J ds) o1 (seq_gt f rs) hp⟩
  | _ => exact hp.elim
/-! len of a dict, of a tuple of the module -/
def cLenX (st : Sto) (ds : List D) : MM D := match ds with
  | [d] => match d with
    | .gtp xs => ret (.int xs.length) st
    | d => match dkOf st d with
      | some kvs => ret (.int kvs.length) st
      | none => none
  | _ => none
def rLenX (K : PySem.W.Frag) : List V → Hp → VK → Prop := fun xs H Q => (∃ x n, xs = [x] ∧ LenV K x H n ∧ Q (.int n) H) ∨ ∃ a kvs, xs = [V.ref a] ∧ Rd H a (.dK kvs) ∧ Q (.int kvs.length) H
theorem call_lenX : CallR X (.builtin "len") (rLenX X.K) := call_len.or (by
  intro pins s σ H xs us Q I r h
  obtain ⟨a, kvs, rfl, ha, q⟩ := h
  obtain ⟨u, rfl, ru⟩ := vals1 r
  cases ru
  exact d_len I ha fun t s' I' => ⟨.int kvs.length, H, I', ⟨t, rfl⟩, q⟩)
theorem rf_lenX : RfC K E (rLenX K) cLenX := fun xs ds w Q o r hp => by
  match ds, r, hp with
  | [], r, hp => exact hp.elim
  | _ :: _ :: _, r, hp => exact hp.elim
  | [d], r, hp =>
    obtain ⟨x, rfl, rx⟩ := r.one_inv
    have viaD : Post K E (rD K) w (match dkOf w.st d with
      | some kvs => ret (.int kvs.length) w.st
      | none => none) Q → rLenX K [x] w.H Q := fun hp => by
      cases g : dkOf w.st d with
      | none => simp only [g] at hp; exact hp.elim
      | some kvs =>
        simp only [g] at hp
        obtain ⟨a, zs, rfl, hr, ek, rs⟩ := dkOf_rep o rx g
        refine .inr ⟨a, zs, rfl, hr, ?_⟩
        rw [len_key ek]
        exact post_ret o (.int _) hp
    cases d with
    | gtp ds =>
      obtain ⟨a, ys, rfl, f, rs⟩ := rx.gtp_inv
      exact .inl ⟨_, _, rfl, .inr ⟨ys, f _, rs.length.symm⟩, post_ret o (.int _) hp⟩
    | _ => exact viaD hp
/-! all of truth values -/
def blsOf : List D → Option (List Bool)
  | [] => some []
  | .bl b :: r => (blsOf r).map (b :: ·)
  | _ => none
theorem blsOf_rep {F : Hp} {α : List Addr} : ∀ {ds : List D} {vs : List V} {bs : List Bool}, Reps K F α vs ds → blsOf ds = some bs → vs = bs.map V.bl
  | [], _, _, .nil, h => by cases h; rfl
  | d :: ds, _, bs, .cons r rs, h => by
    cases d with
    | bl b =>
      have h : (blsOf ds).map (b :: ·) = some bs := h
      cases q : blsOf ds with
      | none => rw [q] at h; cases h
      | some cs =>
        rw [q] at h
        cases h
        rw [r.bl_inv, blsOf_rep rs q]; rfl
    | _ => cases h
def cAll (st : Sto) (ds : List D) : MM D := match ds with
  | [d] => match lstOf st d with
    | some es => match blsOf es with
      | some bs => ret (.bl (bs.all id)) st
      | none => none
    | none => none
  | _ => none
theorem rf_all : RfC K E (rAll K) cAll := fun xs ds w Q o r hp => by
  unfold cAll at hp
  split at hp
  · rename_i d
    obtain ⟨x, rfl, rx⟩ := r.one_inv
    cases g : lstOf w.st d with
    | none => simp only [g] at hp; exact hp.elim
    | some es =>
      cases g2 : blsOf es with
      | none => simp only [g, g2] at hp; exact hp.elim
      | some bs =>
        simp only [g, g2] at hp
        obtain ⟨a, vs, rfl, hs, rs⟩ := lstOf_rep o rx g
        exact ⟨a, bs, rfl, by rw [← blsOf_rep rs g2]; exact hs, post_ret o (.bl _) hp⟩
  · exact hp.elim
/-! dict(d) -/
def cDictC (st : Sto) (ds : List D) : MM D := match ds with
  | [d] => match dkOf st d with
    | some kvs => ret (.ptr st.length) (st ++ [some (.dct kvs)])
    | none => none
  | _ => none
theorem rf_dictC : RfC K E (fun xs H Q => ∃ (a : Addr) (kvs : List (Key × V)), xs = [.ref a] ∧ Rd H a (.dK kvs) ∧ ∀ p, H p = none → Q (.ref p) (upd H p (.dK kvs))) cDictC := fun xs ds w Q o r hp => by
  unfold cDictC at hp
  split at hp
  · rename_i d
    obtain ⟨x, rfl, rx⟩ := r.one_inv
    cases g : dkOf w.st d with
    | none => simp only [g] at hp; exact hp.elim
    | some kvs =>
      simp only [g] at hp
      obtain ⟨a, zs, rfl, hr, ek, rs⟩ := dkOf_rep o rx g
      refine ⟨a, zs, rfl, hr, fun p np => ?_⟩
      exact hp (.ref p) (w.newC p (.dK zs) (.dct kvs)) rfl (ok_newC o np (.dct upd_same ek (rs.mono (Le.refl _) (Pre.app _ _)))) (step_newC o np _ _) (ptr_new o _ _ _)
  · exact hp.elim
/-! tuple(xs) -/
def cTupO (st : Sto) (ds : List D) : MM D := match ds with
  | [d] => match lstOf st d with
    | some es => ret (.tup es) st
    | none => none
  | _ => none
theorem rf_tupO : RfC K E (fun xs H Q => ∃ p ys, xs = [.ref p] ∧ ((SqL K H p ys ∧ ∀ l, H l = none → Q (.ref l) (upd H l (.tup ys))) ∨ (SqT K H p ys ∧ Q (.ref p) H))) cTupO := fun xs ds w Q o r hp => by
  unfold cTupO at hp
  split at hp
  · rename_i d
    obtain ⟨x, rfl, rx⟩ := r.one_inv
    cases g : lstOf w.st d with
    | none => simp only [g] at hp; exact hp.elim
    | some es =>
      simp only [g] at hp
      obtain ⟨a, ys, rfl, hs, rs⟩ := lstOf_rep o rx g
      refine ⟨a, ys, rfl, .inl ⟨hs, fun l nl => ?_⟩⟩
      have s := step_newV o nl (.tup ys)
      exact hp (.ref l) (w.newV l (.tup ys)) rfl (ok_newV o nl _) s (.tup (show upd w.F l _ l = _ from upd_same) (rs.mono s.le s.pre))
  · exact hp.elim
/-! tuples joined -/
def gCatT (st : Sto) (x y : D) : MM D := match x, y with
  | .tup xs, .tup ys => if xs ≠ [] ∧ ys ≠ [] ∧ xs.length + ys.length ≤ sizeLine then ret (.tup (xs ++ ys)) st else none
  | _, _ => none
theorem Reps.nil_iff {F : Hp} {α : List Addr} {xs : List V} {ds : List D} (r : Reps K F α xs ds) : xs = [] ↔ ds = [] := by
  cases r <;> simp
theorem rf_catT : Rf2 K E (rCatT K) gCatT := fun x y dx dy w Q o rx ry hp => by
  cases dx with
  | tup xs =>
    cases dy with
    | tup ys =>
      obtain ⟨⟨h1, h2, h3⟩, hp⟩ := post_ite hp
      obtain ⟨a, us, rfl, fa, ra⟩ := rx.tup_inv
      obtain ⟨b, vs, rfl, fb, rb⟩ := ry.tup_inv
      refine ⟨a, b, us, vs, rfl, rfl, SqT.of (o.sub _ _ fa), SqT.of (o.sub _ _ fb), fun z => h1 (ra.nil_iff.mp z), by rw [ra.length, rb.length]; exact h3, fun z => absurd (rb.nil_iff.mp z) h2, fun _ p np => ?_⟩
      have s := step_newV o np (.tup (us ++ vs))
      exact hp (.ref p) (w.newV p (.tup (us ++ vs))) rfl (ok_newV o np _) s (.tup (show upd w.F p _ p = _ from upd_same) ((ra.append rb).mono s.le s.pre))
    | _ => exact hp.elim
  | _ => exact hp.elim
theorem me_catT (ha : ME X E a fa) (hb : ME X E b fb) : ME X E (.BinOp a .Add b pos) (mBin gCatT fa fb) := me_bin op_catT rf_catT ha hb
/-! d.pop(k), d.pop(k, x) -/
/-- is it a dict that may be changed -/
def isDC (st : Sto) (x : D) : Bool := match x with
  | .ptr i => (cellK st i).isSome
  | _ => false
theorem isDC_rep {w : Ws} (o : Ok K w) {v : V} {d : D} (r : Rep K w.F w.al v d) (h : isDC w.st d = true) : ∃ a, v = .ref a ∧ IsD w.H a := by
  cases d with
  | ptr i =>
    obtain ⟨ds, g⟩ := Option.isSome_iff_exists.mp (show (cellK w.st i).isSome = true from h)
    obtain ⟨a, rfl, _, _, ca⟩ := cell_at o r (cellK_some g)
    cases ca with
    | dct hx _ _ => exact ⟨a, rfl, .inl ⟨_, .inl hx⟩⟩
  | _ => cases h
def popNo (st : Sto) (z : Option D) : MM D := match z with
  | some z => ret z st
  | none => none
def popAt (st : Sto) (x y : D) (z : Option D) : MM D := match x with
  | .ptr i => match cellK st i, keyOf y with
    | some ds, some k => match lookD ds k with
      | some v => ret v (st.set i (some (.dct (dropD ds k))))
      | none => popNo st z
    | _, _ => none
  | _ => none
def mDPop1 (fo fi : FE) : FE := fun sl st => bnd (fo sl st) fun x st => if isDC st x = true then bnd (fi sl st) fun y st => popAt st x y none else none
def mDPop2 (fo fi fx : FE) : FE := fun sl st => bnd (fo sl st) fun x st => if isDC st x = true then bnd (fi sl st) fun y st => bnd (fx sl st) fun z st => popAt st x y (some z) else none
theorem popAt_rep {w : Ws} (o : Ok K w) {a : Addr} {y : V} {dx dy : D} {z : Option D} {Q : VK} (rx : Rep K w.F w.al (.ref a) dx) (ry : Rep K w.F w.al y dy) (h : Post K E (rD K) w (popAt w.st dx dy z) Q) :
    ∃ kvs k, w.H a = some (.dK kvs) ∧ y = kV k ∧ (∀ v, valV kvs k = some v → Q v (upd w.H a (.dK (dropK kvs k)))) ∧ (valV kvs k = none → ∃ d, z = some d ∧ Post K E (rD K) w (ret d w.st) Q) := by
  cases dx with
  | ptr i =>
    have h : Post K E (rD K) w (match cellK w.st i, keyOf dy with
      | some ds, some k => match lookD ds k with
        | some v => ret v (w.st.set i (some (.dct (dropD ds k))))
        | none => popNo w.st z
      | _, _ => none) Q := h
    cases g : cellK w.st i with
    | none => simp only [g] at h; exact h.elim
    | some ds =>
      cases g2 : keyOf dy with
      | none => simp only [g, g2] at h; exact h.elim
      | some k =>
        simp only [g, g2] at h
        obtain ⟨b, e, ea, _, ca⟩ := cell_at o rx (cellK_some g)
        injection e with e
        subst e
        have l : Live w.st i := ⟨_, cellK_some g⟩
        cases ca with
        | @dct kvs _ hx ek rs =>
          refine ⟨kvs, k, hx, keyOf_rep ry g2, fun v hv => ?_, fun hv => ?_⟩
          · cases g3 : lookD ds k with
            | none => rw [look_none ek g3] at hv; cases hv
            | some d =>
              simp only [g3] at h
              obtain ⟨v2, e2, r2⟩ := look_some ek rs g3
              rw [hv] at e2; cases e2
              obtain ⟨p1, p2⟩ := drop_rep (k := k) ek rs
              exact h v (w.put i a (.dK (dropK kvs k)) (.dct (dropD ds k))) rfl (ok_put o l ea (.dct upd_same p1 p2)) (step_put o l ea _ _) r2
          · cases g3 : lookD ds k with
            | some d =>
              obtain ⟨v2, e2, _⟩ := look_some ek rs g3
              rw [hv] at e2; cases e2
            | none =>
              simp only [g3] at h
              cases z with
              | none => exact h.elim
              | some d => exact ⟨d, rfl, h⟩
  | _ => exact h.elim
theorem me_dpop1 (ho : ME X E o fo) (hi : ME X E e fi) (m : M1 X o "pop" apos e cpos) : ME X E (.Call (.Attribute o "pop" apos) [e] [] cpos) (mDPop1 fo fi) := by
  obtain ⟨t, p, q⟩ := ho.ex
  obtain ⟨t2, p2, q2⟩ := hi.ex
  refine ⟨_, pe_dpop1 p p2 m, fun sl σ w Q ok s h => ?_⟩
  refine q sl σ w _ ok s (post_bnd h fun x dx w1 o1 s1 rx h1 => ?_)
  obtain ⟨hd, h1⟩ := post_ite (p := isDC w1.st dx = true) h1
  obtain ⟨a, rfl, hIs⟩ := isDC_rep o1 rx hd
  refine ⟨a, rfl, hIs, q2 sl σ w1 _ o1 (s.step s1) (post_bnd h1 fun y dy w2 o2 s2 ry h2 => ?_)⟩
  obtain ⟨kvs, k, e1, e2, e3, e4⟩ := popAt_rep o2 (rx.mono s2.le s2.pre) ry h2
  cases g : valV kvs k with
  | none => obtain ⟨_, z, _⟩ := e4 g; cases z
  | some v => exact ⟨kvs, k, v, e1, e2, g, e3 v g⟩
theorem me_dpop2 (ho : ME X E o fo) (hi : ME X E e fi) (hx : ME X E b fx) (m : M2 X o "pop" apos e b cpos) : ME X E (.Call (.Attribute o "pop" apos) [e, b] [] cpos) (mDPop2 fo fi fx) := by
  obtain ⟨t, p, q⟩ := ho.ex
  obtain ⟨t2, p2, q2⟩ := hi.ex
  obtain ⟨t3, p3, q3⟩ := hx.ex
  refine ⟨_, pe_dpop2 p p2 p3 m, fun sl σ w Q ok s h => ?_⟩
  refine q sl σ w _ ok s (post_bnd h fun x dx w1 o1 s1 rx h1 => ?_)
  obtain ⟨hd, h1⟩ := post_ite (p := isDC w1.st dx = true) h1
  obtain ⟨a, rfl, hIs⟩ := isDC_rep o1 rx hd
  refine ⟨a, rfl, hIs, q2 sl σ w1 _ o1 (s.step s1) (post_bnd h1 fun y dy w2 o2 s2 ry h2 => ?_)⟩
  refine q3 sl σ w2 _ o2 ((s.step s1).step s2) (post_bnd h2 fun z dz w3 o3 s3 rz h3 => ?_)
  obtain ⟨kvs, k, e1, e2, e3, e4⟩ := popAt_rep o3 ((rx.mono s2.le s2.pre).mono s3.le s3.pre) (ry.mono s3.le s3.pre) h3
  refine ⟨kvs, k, e1, e2, e3, fun hv => ?_⟩
  obtain ⟨d, z, hp⟩ := e4 hv
  cases z
  exact post_ret o3 rz hp
/-! sorted(d), keys all texts -/
def strKeys : List Key → Option (List Str)
  | [] => some []
  | .inr s :: r => (strKeys r).map (s :: ·)
  | _ => none
theorem strKeys_eq : ∀ {ks : List Key} {ss : List Str}, strKeys ks = some ss → ks = ss.map Sum.inr
  | [], _, h => by cases h; rfl
  | .inr s :: r, ss, h => by
    have h : (strKeys r).map (s :: ·) = some ss := h
    cases q : strKeys r with
    | none => rw [q] at h; cases h
    | some cs => rw [q] at h; cases h; rw [strKeys_eq q]; rfl
  | .inl _ :: _, _, h => by cases h
def leS (a b : Str) : Bool := !ltCps b.cps.toList a.cps.toList
def cSortK (c : Bool) (st : Sto) (ds : List D) : MM D := match ds with
  | [d] => match dkOf st d with
    | some kvs => match strKeys (kvs.map (·.1)) with
      | some ss => if ss.length < 64 then mkL c ((ss.mergeSort leS).map .str) st else none
      | none => none
    | none => none
  | _ => none
theorem leS_iff (a b : Str) : leS a b = true ↔ a.cps.toList ≤ b.cps.toList := by
  unfold leS
  rw [ltCps_eq]
  simp [List.not_lt]
theorem Str.cps_inj {a b : Str} (h : a.cps.toList = b.cps.toList) : a = b := by
  cases a; cases b
  congr
  exact Array.toList_inj.mp h
theorem leS_anti {a b : Str} (h : leS a b = true) (h' : leS b a = true) : a = b := by
  rw [leS_iff] at h h'
  exact Str.cps_inj (List.le_antisymm h h')
theorem leS_trans {a b c : Str} (h : leS a b = true) (h' : leS b c = true) : leS a c = true := by
  rw [leS_iff] at h h' ⊢
  exact List.le_trans h h'
theorem leS_total (a b : Str) : (leS a b || leS b a) = true := by
  rw [Bool.or_eq_true, leS_iff, leS_iff]
  exact List.le_total _ _
theorem rising_pw : ∀ {l : List Str} {p : Str}, risingS p l = true → (p :: l).Pairwise (fun a b => leS a b = true)
  | [], _, _ => List.pairwise_singleton _ _
  | x :: r, p, h => by
    have h : (leS p x && risingS x r) = true := h
    rw [Bool.and_eq_true] at h
    have ih := rising_pw h.2
    refine List.pairwise_cons.mpr ⟨fun y hy => ?_, ih⟩
    rcases List.mem_cons.mp hy with rfl | hy
    · exact h.1
    · exact leS_trans h.1 ((List.pairwise_cons.mp ih).1 y hy)
theorem sorted_pw : ∀ {l : List Str}, sortedS l = true → l.Pairwise (fun a b => leS a b = true)
  | [], _ => .nil
  | x :: r, h => rising_pw h
theorem sorted_is {ys ks : List Str} (hp : ys.Perm ks) (hs : sortedS ys = true) : ys = ks.mergeSort leS :=
  List.Perm.eq_of_pairwise (le := fun a b => leS a b = true) (fun a b _ _ h h' => leS_anti h h') (sorted_pw hs) (List.pairwise_mergeSort (le := leS) (fun a b c h h2 => leS_trans h h2) (fun a b => leS_total a b) ks) (hp.trans (List.mergeSort_perm _ _).symm)
def rSortK : List V → Hp → VK → Prop := fun xs H Q => ∃ (a : Addr) (kvs : List (Key × V)) (ks : List Str), xs = [.ref a] ∧ Rd H a (.dK kvs) ∧ kvs.map (·.1) = ks.map Sum.inr ∧ ks.length < 64 ∧ ∀ ys p, ys.Perm ks → sortedS ys = true → H p = none → Q (.ref p) (upd H p (.lst (ys.map V.str)))
theorem rf_sortK (c : Bool) : RfC K E rSortK (cSortK c) := fun xs ds w Q o r hp => by
  unfold cSortK at hp
  split at hp
  · rename_i d
    obtain ⟨x, rfl, rx⟩ := r.one_inv
    cases g : dkOf w.st d with
    | none => simp only [g] at hp; exact hp.elim
    | some kvs =>
      cases g2 : strKeys (kvs.map (·.1)) with
      | none => simp only [g, g2] at hp; exact hp.elim
      | some ss =>
        simp only [g, g2] at hp
        obtain ⟨hl, hp⟩ := post_ite hp
        obtain ⟨a, zs, rfl, hr, ek, rs⟩ := dkOf_rep o rx g
        refine ⟨a, zs, ss, rfl, hr, ek.trans (strKeys_eq g2), hl, fun ys p h1 h2 np => ?_⟩
        rw [sorted_is h1 h2]
        exact post_mkL o hp np (reps_strs _)
  · exact hp.elim
end
end M

/-! dicts written out -/
namespace M
open PySem PySem.Spec PyProof.Rows L2
section
variable {X : Cx} {E : XK} {K : PySem.W.Frag} {a b c e o : Expr} {es rest : List Expr} {fa fb fc fo fi fx : FE} {fs : FA} {pos apos cpos p : Pos}
/-- {k: v}, k a tuple -/
def tDispT1 (tk tv : TE) : TE := fun σ H Q => ∀ p, H p = none → tPairs [(tk, tv)] σ (upd H p (.dT [])) fun ps H2 => ∃ x y, ps = [(x, y)] ∧ H2 p = some (.dT []) ∧ ∃ (b : Addr) (k : List Key), x = .ref b ∧ H2 b = some (.tup (k.map kV)) ∧ Q (.ref p) (upd H2 p (.dT [(k, y)]))
theorem pe_dispT1 {tk tv : TE} (hu : X.A.units + 1 < cLine) (hk : PE X a tk) (hv : PE X b tv) : PE X (.Dict [some a] [b] pos) (tDispT1 tk tv) := by
  refine ⟨fun pins s σ H Q I q => ?_⟩
  have hn := I.hok.fresh (Nat.le_refl s.heap.objs.size)
  have I1 := I.laid (a := s.heap.objs.size) (o := .dT []) (h' := s.heap.push { cls := .type "dict", data := .dict #[] }) (t' := s.toks) (fun _ _ q => Heap.get?_push_of_some _ q) (Nat.le_refl _) (dt_empty s.heap I.big)
  have hall : ([some a] : List (Option Expr)).all (·.isSome) = true := rfl
  have hlp : (pairTrees [some a] [b] X.env pos).length = 1 := pairTrees_length [some a] [b] X.env pos hall rfl
  rw [arm_eval_Dict, zip_pairTrees [some a] [b] X.env pos hall rfl, dictDisplay_pairs _ (fun z => by rw [z] at hlp; cases hlp) (by omega)]
  refine wpAny_bind (wpAny_standAt (wpAny_bind (wpAny_subDictH (knd := tupleKind (mixKind X.prog X.w)) (show (tupleKind (mixKind X.prog X.w)).room X.A from Nat.lt_of_succ_lt hu) (by omega) ?_)))
  have q1 := q _ hn
  refine thn ((pps_cons hk hv pps_nil).run pins _ σ _ (fun ps H2 => ∃ x y, ps = [(x, y)] ∧ H2 s.heap.objs.size = some (.dT []) ∧ ∃ (b : Addr) (k : List Key), x = .ref b ∧ H2 b = some (.tup (k.map kV)) ∧ Q (.ref s.heap.objs.size) (upd H2 s.heap.objs.size (.dT [(k, y)]))) I1 ?_) fun ws s2 ⟨ps, H2, I2, rel, x, y, ep, e, b, k, ex, eb, q2⟩ => ?_
  · exact q1
  · subst ep ex
    obtain ⟨z, hd, vs0, r0, dd⟩ := dt_of I2.hok e
    cases r0
    cases rel with
    | @cons p0 w0 _ _ h t =>
      cases t
      obtain ⟨u, v⟩ := w0
      obtain ⟨hu1, hv1⟩ := h
      cases (show u = Value.ref b from hu1)
      refine ⟨[(k, b, v)], ⟨rfl, rfl, key_of I2.hok eb, trivial⟩, dd, fun h' tk dd' hs => wpAny_pure ?_⟩
      obtain ⟨q, es, ep, hq, h2, h3, h4, _, h5⟩ := dd'
      have eb' : upd H2 s.heap.objs.size (.dT [(k, y)]) b = some (.tup (k.map kV)) := by
        rw [upd_ne (ne_of eb e (fun z => nomatch z))]
        exact eb
      have new : ObjOk X.prog X.w (upd H2 s.heap.objs.size (.dT [(k, y)])) h' s.heap.objs.size (.dT [(k, y)]) := by
        refine ⟨by show 1 ≤ sizeLine; decide, hd, [(k, b, v)], .cons ⟨rfl, eb', hv1⟩ .nil, q, es, ep, hq, h2, h3, h4, h5⟩
      exact ⟨.ref s.heap.objs.size, _, d_write I2 (by rw [e]; exact True.intro) hs ⟨q, hq⟩ new, rfl, q2⟩
def RefP (K : PySem.W.Frag) (E : XK) (trs : List (TE × TE)) (ks : List Str) (f : FA) : Prop := ∀ sl σ w (Q : List (V × V) → Hp → Prop), Ok K w → Slots K w sl σ → Post K E (fun w (ps : List (V × V)) ds => ps.map (·.1) = ks.map V.str ∧ Reps K w.F w.al (ps.map (·.2)) ds) w (f sl w.st) Q → tPairs trs σ w.H Q
structure MKV (X : Cx) (E : XK) (pos : Pos) (keys : List (Option Expr)) (values : List Expr) (ks : List Str) (f : FA) : Prop where
  ex : ∃ trs, PPs X pos keys values trs ∧ RefP X.K E trs ks f
theorem mkv_nil : MKV X E pos [] [] [] mNil := ⟨[], pps_nil, fun sl σ w Q o s h => post_ret (rp := fun w (ps : List (V × V)) ds => ps.map (·.1) = ([] : List Str).map V.str ∧ Reps X.K w.F w.al (ps.map (·.2)) ds) o ⟨rfl, .nil⟩ h⟩
theorem mkv_cons {k : Str} {j : Nat} {kp : Pos} {keys : List (Option Expr)} {values : List Expr} {ks : List Str} (hv : ME X E b fb) (hr : MKV X E pos keys values ks fs) : MKV X E pos (some (.Constant (.str k) j kp) :: keys) (b :: values) (k :: ks) (mCons fb fs) := by
  obtain ⟨tv, p, q⟩ := hv.ex
  obtain ⟨trs, p2, q2⟩ := hr.ex
  refine ⟨_, pps_cons pe_str p p2, fun sl σ w Q o s h => ?_⟩
  refine q sl σ w _ o s (post_bnd h fun v d w1 o1 s1 r h1 => ?_)
  refine q2 sl σ w1 _ o1 (s.step s1) (post_bnd h1 fun ps ds w2 o2 s2 rs h2 => ?_)
  exact post_ret (rp := fun w (ps : List (V × V)) ds => ps.map (·.1) = (k :: ks).map V.str ∧ Reps X.K w.F w.al (ps.map (·.2)) ds) o2 ⟨by rw [List.map_cons, List.map_cons, rs.1], .cons (r.mono s2.le s2.pre) rs.2⟩ h2
def emptyC (st : Sto) (i : Nat) : Bool := match cellK st i with
  | some [] => true
  | _ => false
theorem emptyC_is {st : Sto} {i : Nat} (h : emptyC st i = true) : cellK st i = some [] := by
  unfold emptyC at h
  split at h
  · assumption
  · cases h
theorem nodup_inr : ∀ {ks : List Str}, ks.Nodup → (ks.map (Sum.inr : Str → Key)).Nodup
  | [], _ => List.nodup_nil
  | k :: ks, h => by
    rw [List.nodup_cons] at h
    rw [List.map_cons, List.nodup_cons]
    refine ⟨fun m => ?_, nodup_inr h.2⟩
    obtain ⟨x, hx, e⟩ := List.mem_map.mp m
    injection e with e
    subst e
    exact h.1 hx
/-- {"k": v, ..} -/
def mDisp (ks : List Str) (f : FA) : FE := fun sl st => bnd (f sl (st ++ [some (.dct [])])) fun vs st2 => if emptyC st2 st.length = true ∧ vs.length = ks.length ∧ ks.length ≤ 15 ∧ ks.Nodup then ret (.ptr st.length) (st2.set st.length (some (.dct ((ks.map Sum.inr).zip vs)))) else none
theorem merge_new {κ : Type} [DecidableEq κ] : ∀ (more acc : List (κ × V)), (acc.map (·.1) ++ more.map (·.1)).Nodup → more.foldl (fun acc kv => putK acc kv.1 kv.2) acc = acc ++ more
  | [], acc, _ => (List.append_nil _).symm
  | p :: r, acc, h => by
    have hn : (acc.any fun kv => decide (kv.1 = p.1)) = false := by
      rw [List.any_eq_false]
      intro kv hk
      simp only [decide_eq_true_eq]
      intro e
      rw [List.nodup_append] at h
      exact h.2.2 _ (List.mem_map.mpr ⟨kv, hk, rfl⟩) p.1 (by simp) e
    rw [List.foldl_cons]
    have e : putK acc p.1 p.2 = acc ++ [p] := by
      unfold putK
      rw [hn, if_neg Bool.false_ne_true]
    rw [e, merge_new r (acc ++ [p]) (by simpa using h), List.append_assoc]; rfl
theorem zip_maps {α β : Type} : ∀ {xs : List α} {ys : List β}, xs.length = ys.length → (xs.zip ys).map (·.1) = xs ∧ (xs.zip ys).map (·.2) = ys
  | [], [], _ => ⟨rfl, rfl⟩
  | [], _ :: _, h => by cases h
  | _ :: _, [], h => by cases h
  | x :: xs, y :: ys, h => by
    obtain ⟨h1, h2⟩ := zip_maps (xs := xs) (ys := ys) (Nat.succ.inj h)
    exact ⟨congrArg _ h1, congrArg _ h2⟩
theorem me_disp {keys : List (Option Expr)} {values : List Expr} {ks : List Str} (h : MKV X E pos keys values ks fs) (hall : keys.all (·.isSome) = true := by rfl) (hl : keys.length = values.length := by rfl) (h0 : keys ≠ [] := by intro z; cases z)
    (h15 : keys.length ≤ 15 := by decide) : ME X E (.Dict keys values pos) (mDisp ks fs) := by
  obtain ⟨trs, p, q⟩ := h.ex
  refine ⟨_, pe_disp p hall hl h0 h15, fun sl σ w Q o s hp p np => ?_⟩
  have o1 := ok_newC (u := .dK []) (c := .dct []) o np (.dct upd_same rfl .nil)
  have s1 := step_newC o np (.dK []) (.dct [])
  have r1 : Rep X.K (w.newC p (.dK []) (.dct [])).F (w.newC p (.dK []) (.dct [])).al (.ref p) (.ptr w.st.length) := ptr_new o _ _ _
  refine q sl σ (w.newC p (.dK []) (.dct [])) _ o1 (s.step s1) (post_bnd (k := fun vs st2 => if emptyC st2 w.st.length = true ∧ vs.length = ks.length ∧ ks.length ≤ 15 ∧ ks.Nodup then ret (D.ptr w.st.length) (st2.set w.st.length (some (.dct ((ks.map Sum.inr).zip vs)))) else none) (Post.step s1 hp) fun ps ds w2 o2 s2 rs h2 => ?_)
  obtain ⟨⟨e0, e2, e3, e4⟩, h2⟩ := post_ite h2
  have e1 := emptyC_is e0
  have r2 := r1.mono s2.le s2.pre
  obtain ⟨a, ea, hal, _, ca⟩ := cell_at o2 r2 (cellK_some e1)
  injection ea with ea
  subst ea
  have l : Live w2.st w.st.length := ⟨_, cellK_some e1⟩
  cases ca with
  | @dct kvs0 _ hx ek _ =>
    have : kvs0 = [] := List.map_eq_nil_iff.mp ek
    subst this
    have lps : ps.length = ks.length := by have := congrArg List.length rs.1; simpa using this
    obtain ⟨z1, z2⟩ := zip_maps (xs := ks.map (Sum.inr : Str → Key)) (ys := ps.map (·.2)) (by simp [lps])
    obtain ⟨y1, y2⟩ := zip_maps (xs := ks.map (Sum.inr : Str → Key)) (ys := ds) (by simp [e2])
    refine ⟨hx, (ks.map Sum.inr).zip (ps.map (·.2)), ?_, by rw [List.length_zip]; simp [lps]; omega, ?_⟩
    · have e5 : ps = (ps.map (·.1)).zip (ps.map (·.2)) := by
        rw [List.zip_map']
        simp
      rw [rs.1] at e5
      refine e5.trans ?_
      rw [List.zip_map_left, List.zip_map_left, List.map_map]
      rfl
    · have e6 : mergeK [] ((ks.map (Sum.inr : Str → Key)).zip (ps.map (·.2))) = (ks.map Sum.inr).zip (ps.map (·.2)) := by
        unfold mergeK
        rw [merge_new _ [] (by rw [List.map_nil, List.nil_append, z1]; exact nodup_inr e4), List.nil_append]
      rw [e6]
      exact h2 (.ref p) (w2.put w.st.length p (.dK ((ks.map Sum.inr).zip (ps.map (·.2)))) (.dct ((ks.map Sum.inr).zip ds))) rfl (ok_put o2 l hal (.dct upd_same (by rw [z1, y1]) (by rw [z2, y2]; exact rs.2))) (step_put o2 l hal _ _) r2
/-- {k: v}, k a tuple -/
def mDispT (fk fv : FE) : FE := fun sl st => bnd (fk sl (st ++ [some (.dcT [])])) fun x st1 => bnd (fv sl st1) fun y st2 => match x with
  | .tup ks => match cellT st2 st.length, keysOf ks with
    | some [], some k => ret (.ptr st.length) (st2.set st.length (some (.dcT [(k, y)])))
    | _, _ => none
  | _ => none
theorem me_dispT (hu : X.A.units + 1 < cLine) (hk : ME X E a fa) (hv : ME X E b fb) : ME X E (.Dict [some a] [b] pos) (mDispT fa fb) := by
  obtain ⟨tk, p, q⟩ := hk.ex
  obtain ⟨tv, p2, q2⟩ := hv.ex
  refine ⟨_, pe_dispT1 hu p p2, fun sl σ w Q o s hp p np => ?_⟩
  have o1 := ok_newC (u := .dT []) (c := .dcT []) o np (.dcT upd_same rfl .nil)
  have s1 := step_newC o np (.dT []) (.dcT [])
  have r1 : Rep X.K (w.newC p (.dT []) (.dcT [])).F (w.newC p (.dT []) (.dcT [])).al (.ref p) (.ptr w.st.length) := .ptr (by
    show (w.al ++ [p])[w.st.length]? = some p
    rw [List.getElem?_append_right (by rw [o.len]; exact Nat.le_refl _), o.len, Nat.sub_self]; rfl)
  refine q sl σ (w.newC p (.dT []) (.dcT [])) _ o1 (s.step s1) (post_bnd (Post.step s1 hp) fun x dx w2 o2 s2 rx h2 => ?_)
  refine q2 sl σ w2 _ o2 ((s.step s1).step s2) (post_bnd h2 fun y dy w3 o3 s3 ry h3 => ?_)
  have r3 := (r1.mono s2.le s2.pre).mono s3.le s3.pre
  have rx := rx.mono s3.le s3.pre
  cases dx with
  | tup kd =>
    have h3 : Post X.K E (rD X.K) w3 (match cellT w3.st w.st.length, keysOf kd with
      | some [], some k => ret (.ptr w.st.length) (w3.st.set w.st.length (some (.dcT [(k, dy)])))
      | _, _ => none) Q := h3
    cases g : cellT w3.st w.st.length with
    | none => simp only [g] at h3; exact h3.elim
    | some kvs =>
      cases kvs with
      | cons _ _ => simp only [g] at h3; exact h3.elim
      | nil =>
        cases g2 : keysOf kd with
        | none => simp only [g, g2] at h3; exact h3.elim
        | some k =>
          simp only [g, g2] at h3
          obtain ⟨a, ea, hal, _, ca⟩ := cell_at o3 r3 (cellT_some g)
          injection ea with ea
          subst ea
          obtain ⟨b, xs, rfl, hb, rxs⟩ := rx.tup_inv
          have l : Live w3.st w.st.length := ⟨_, cellT_some g⟩
          cases ca with
          | @dcT kvs0 _ hx ek _ =>
            have : kvs0 = [] := List.map_eq_nil_iff.mp ek
            subst this
            refine ⟨_, _, rfl, hx, b, k, rfl, by rw [← keysOf_rep rxs g2]; exact o3.sub _ _ hb, ?_⟩
            exact h3 (.ref p) (w3.put w.st.length p (.dT [(k, y)]) (.dcT [(k, dy)])) rfl (ok_put o3 l hal (.dcT upd_same rfl (.cons ry .nil))) (step_put o3 l hal _ _) r3
  | _ => exact h3.elim
end
end M

/-! sorted(d), d's keys tuples -/
namespace M
open PySem PySem.Spec PyProof.Rows L2
def encK (k : List Key) : PyData := .tuple (k.map keyPy)
def rSortT : List V → Hp → VK → Prop := fun xs H Q => ∃ (d : Addr) (kvs : List (List Key × V)), xs = [.ref d] ∧ Rd H d (.dT kvs) ∧ PySem.W.AllAlike (kvs.map fun p => encK p.1) ∧ PySem.W.Sortable (kvs.map fun p => encK p.1) ∧ (∀ p ∈ kvs, (encK p.1).depth ≤ 60) ∧
  ∀ (p : Addr) (bs : List (List Key × Addr)), H p = none → bs.map (·.1) = kvs.map (·.1) → (∀ b ∈ bs, H b.2 = some (.tup (b.1.map kV))) → Q (.ref p) (upd H p (.lst ((bs.mergeSort (PySem.W.dataLe false fun b => encK b.1)).map fun b => V.ref b.2)))
theorem each_refs {β : Type} (f : β → Addr) : ∀ bs : List β, PySem.W.EachIs (fun v b => v = Value.ref (f b)) (bs.map fun b => Value.ref (f b)) bs
  | [] => .nil
  | _ :: r => .cons rfl (each_refs f r)
theorem each_refs_eq {β : Type} (f : β → Addr) : ∀ {vs : List Value} {bs : List β}, PySem.W.EachIs (fun v b => v = Value.ref (f b)) vs bs → vs = bs.map fun b => Value.ref (f b)
  | _, _, .nil => rfl
  | _, _, .cons h t => by rw [h, each_refs_eq f t]; rfl
theorem each_reads {β : Type} {h : Heap} {a : Addr} (f : β → Addr) (enc : β → PyData) : ∀ bs : List β, (∀ b ∈ bs, Reads h (.ref (f b)) (enc b) []) → PySem.W.EachIs (fun v b => ∃ as, Reads h v (enc b) as ∧ a ∉ as) (bs.map fun b => Value.ref (f b)) bs
  | [], _ => .nil
  | b :: r, hh => .cons ⟨_, hh b List.mem_cons_self, by simp⟩ (each_reads f enc r fun x m => hh x (List.mem_cons_of_mem _ m))
theorem map_enc {τ : Type} (l : List (List Key × τ)) : (l.map fun b => encK b.1) = (l.map (·.1)).map encK := by rw [List.map_map]; rfl
theorem kt_fst {H : Hp} : ∀ {kvs : List (List Key × V)} {xs : List (List Key × Addr × Value)}, KT H kvs xs → xs.map (·.1) = kvs.map (·.1)
  | _, _, .nil => rfl
  | _, _, .cons z t => by rw [List.map_cons, List.map_cons, kt_fst t, z.1]
theorem kt_tups {H : Hp} : ∀ {kvs : List (List Key × V)} {xs : List (List Key × Addr × Value)}, KT H kvs xs → ∀ x ∈ xs, H x.2.1 = some (.tup (x.1.map kV))
  | _, _, .nil, x, m => by cases m
  | _, _, .cons z t, x, m => by
    rcases List.mem_cons.mp m with rfl | m
    · rw [← z.1]; exact z.2.1
    · exact kt_tups t x m
theorem call_sortedT {X : Cx} (hu : X.A.units + 64 < cLine) (hcalm : X.calm = true) : CallR X (.builtin "sorted") rSortT := by
  intro pins s σ H xs us Q I r q
  obtain ⟨a, kvs, rfl, hd, hal, hso, hdep, q⟩ := q
  obtain ⟨u, rfl, rx⟩ := vals1 r
  cases rx
  obtain ⟨z, lo, ks, rel, o, es, ep, ho, hx, hdt, hes, his, hnd⟩ := dt_rd I.hok hd
  have hsz : es.size = ks.length := size_of_entries hes
  have hl : ks.length = kvs.length := (Paired.length rel).symm
  have h16 : es.size ≤ sizeLine := by rw [hsz, hl]; exact z
  have raw : s.heap.DictRaw a es ep := ⟨o, ho, hx, hdt⟩
  refine Calls.call_function_entry PyProof.Rows.kind_sorted PyProof.Rows.plain_sorted PyProof.Rows.entry_sorted (PyProof.Rows.args_sorted1 _) ?_
  unfold Builtin.«sorted»
  refine wpAny_bind (m := checkCount "sorted" 1 1 _) (wpAny_pure ?_)
  refine wpAny_bind (PySem.W.kdu_collect (A := X.A.in1) (KdlSrc.rawDict (es := es) (ep := ep) lo) (I.ok.hd hcalm) raw h16 fun h' tk acc hk hacc => ?_)
  let bs : List (List Key × Addr) := ks.map fun x => (x.1, x.2.1)
  have hbl : bs.length = ks.length := List.length_map _
  have hacc2 : acc.toList = bs.map fun b => Value.ref b.2 := by
    refine List.ext_getElem? fun j => ?_
    rw [List.getElem?_map, List.getElem?_map, Array.getElem?_toList]
    by_cases hj : j < acc.size
    · obtain ⟨hi, e1⟩ := hacc.2 j acc[j] (Array.getElem?_eq_getElem hj)
      have hjk : j < ks.length := by rw [← hsz]; exact hi
      have qe := entry_at hes j
      rw [Array.getElem?_eq_getElem hi, List.getElem?_eq_getElem hjk] at qe
      have e2 : es[j] = entryOfKey (tupleKind (mixKind X.prog X.w)) ks[j] := Option.some.inj qe
      rw [Array.getElem?_eq_getElem hj, List.getElem?_eq_getElem hjk, e1, e2]
      rfl
    · have hj2 : ¬ j < ks.length := by rw [← hsz, ← hacc.1]; exact hj
      rw [Array.getElem?_eq_none (by omega), List.getElem?_eq_none (by omega)]
      rfl
  have I1 : Inv X pins σ H { s with heap := h', toks := tk } := I.kept hk
  have hal2 : acc.toList.length = ks.length := by rw [hacc2, List.length_map, hbl]
  refine wpAny_bind (wpAny_newList ?_ (by rw [hal2, hl]; exact z))
  have hoL : (h'.push (seqObj "list" acc.toList.toArray 0)).get? h'.objs.size = some (seqObj "list" acc.toList.toArray 0) := Heap.get?_push_size _ rfl
  show wpAny _ _ _ _ _ { s with heap := h'.push (seqObj "list" acc.toList.toArray 0), toks := tk }
  have hkeys : bs.map (·.1) = kvs.map (·.1) := by
    have e1 : bs.map (·.1) = ks.map (·.1) := by rw [List.map_map]; rfl
    rw [e1, kt_fst rel]
  have hT : ∀ b ∈ bs, H b.2 = some (.tup (b.1.map kV)) := fun b hb => by
    obtain ⟨x, hx, rfl⟩ := List.mem_map.mp hb
    exact kt_tups rel x hx
  have hreads : ∀ b ∈ bs, Reads (h'.push (seqObj "list" acc.toList.toArray 0)) (.ref b.2) (encK b.1) [] := fun b hb => by
    obtain ⟨x, hx, rfl⟩ := List.mem_map.mp hb
    obtain ⟨o2, its, n, g1, g2, g3, g4⟩ := his x hx
    exact .tuple (Heap.get?_push_of_some _ (hk _ _ g1)) g2 g3 (items_reads g4)
  have hencs : (bs.map fun b => encK b.1) = kvs.map fun p => encK p.1 := by
    rw [map_enc bs, hkeys, ← map_enc kvs]
  have e0 := each_refs (fun b : List Key × Addr => b.2) bs
  rw [← hacc2] at e0
  have er := each_reads (h := h'.push (seqObj "list" acc.toList.toArray 0)) (a := h'.objs.size) (fun b : List Key × Addr => b.2) (fun b => encK b.1) bs hreads
  rw [← hacc2] at er
  refine wpAny_bind (wpAny_holding (PySem.W.list_sort_data (s := { s with heap := h'.push (seqObj "list" acc.toList.toArray 0), toks := tk }) (enc := fun b : List Key × Addr => encK b.1) hoL e0 er (by rw [hencs]; exact hal) (by rw [hencs]; exact hso) (by rw [hbl, hl]; exact z) (fun b hb => ?_) fun out hol eo => ?_))
  · have hb2 : encK b.1 ∈ kvs.map fun p => encK p.1 := by rw [← hencs]; exact List.mem_map.mpr ⟨b, hb, rfl⟩
    obtain ⟨p, hp, e⟩ := List.mem_map.mp hb2
    have h1 := hdep p hp
    rw [e] at h1
    show X.A.in1.units + 1 + (encK b.1).depth < cLine
    have h2 : X.A.in1.units = X.A.units + 1 := rfl
    omega
  · have eout := each_refs_eq _ eo
    obtain ⟨e', he'⟩ := PyProof.Rows.sortedHeap_at (vs := acc.toList) (out := out.toArray) hoL
    have hlen : ((bs.mergeSort (PySem.W.dataLe false fun b => encK b.1)).map fun b => V.ref b.2).length ≤ sizeLine := by
      rw [List.length_map, List.length_mergeSort, hbl, hl]
      exact z
    have hv : Vals ((bs.mergeSort (PySem.W.dataLe false fun b => encK b.1)).map fun b => V.ref b.2) out := by
      rw [eout]
      have := vals_refs ((bs.mergeSort (PySem.W.dataLe false fun b => encK b.1)).map (·.2))
      rw [List.map_map, List.map_map] at this
      exact this
    refine wpAny_pure ⟨_, rfl, .ref h'.objs.size, upd H h'.objs.size (.lst _), I1.laid (t' := tk) (fun b u e => ?_) (Nat.le_refl _)
      (show ObjOk X.prog X.w _ _ _ (.lst _) from ⟨hlen, out, e', hv, he'⟩), rfl, q _ bs (I1.hok.fresh (Nat.le_refl _)) hkeys hT⟩
    have hb : b < h'.objs.size := Heap.lt_size e
    rw [PyProof.Rows.sortedHeap_old (Nat.ne_of_lt hb) (by rw [size_push']; exact Nat.lt_succ_of_lt hb)]
    exact Heap.get?_push_of_some _ e
/-! the plain function -/
def tupK (k : List Key) : D := .tup (k.map kD)
theorem py_kD (k : Key) : py (kD k) = some (keyPy k) := by cases k <;> rw [kD, py] <;> rfl
theorem pys_kD : ∀ ks : List Key, pys (ks.map kD) = some (ks.map keyPy)
  | [] => by rw [List.map_nil, pys]; rfl
  | k :: r => by rw [List.map_cons, pys, py_kD, pys_kD r]; rfl
theorem pyD_tupK (k : List Key) : pyD (tupK k) = encK k := by
  unfold pyD tupK encK
  rw [py, pys_kD]; rfl
theorem leD_tupK (a b : List Key) : leD (tupK a) (tupK b) = PySem.W.dataLe false encK a b := by
  show PySem.W.dataLe false pyD (tupK a) (tupK b) = _
  rw [PySem.W.dataLe_eq, PySem.W.dataLe_eq]
  show (!PySem.W.dataLt (pyD (tupK b)) (pyD (tupK a))) = !PySem.W.dataLt (encK b) (encK a)
  rw [pyD_tupK, pyD_tupK]
def sortKOk (ks : List (List Key)) : Bool := ks.all (fun k => decide ((encK k).depth ≤ 60) && !k.isEmpty) && ks.all fun a => ks.all fun b => PySem.W.alike (encK a) (encK b)
def cSortT (c : Bool) (st : Sto) (ds : List D) : MM D := match ds with
  | [d] => match dtOf st d with
    | some kvs => if sortKOk (kvs.map (·.1)) = true then mkL c ((kvs.map fun p => tupK p.1).mergeSort leD) st else none
    | none => none
  | _ => none
theorem rf_sortT {K : PySem.W.Frag} {E : XK} (c : Bool) : RfC K E rSortT (cSortT c) := fun xs ds w Q o r hp => by
  match ds, r, hp with
  | [], r, hp => exact hp.elim
  | _ :: _ :: _, r, hp => exact hp.elim
  | [d], r, hp =>
    obtain ⟨x, rfl, rx⟩ := r.one_inv
    have hp : Post K E (rD K) w (match dtOf w.st d with
      | some kvs => if sortKOk (kvs.map (·.1)) = true then mkL c ((kvs.map fun p => tupK p.1).mergeSort leD) w.st else none
      | none => none) Q := hp
    cases g : dtOf w.st d with
    | none => simp only [g] at hp; exact hp.elim
    | some dvs =>
      simp only [g] at hp
      obtain ⟨hok, hp⟩ := post_ite hp
      obtain ⟨a, kvs, rfl, hr, ek, rs⟩ := dtOf_rep o rx g
      unfold sortKOk at hok
      simp only [Bool.and_eq_true, List.all_eq_true, decide_eq_true_eq, Bool.not_eq_true', List.isEmpty_eq_false_iff] at hok
      obtain ⟨h1, h2⟩ := hok
      rw [← ek] at h1 h2
      refine ⟨a, kvs, rfl, hr, fun u hu v hv => ?_, .inl fun u hu => ?_, fun p hp2 => (h1 p.1 (List.mem_map.mpr ⟨p, hp2, rfl⟩)).1, fun p bs np hk ht => ?_⟩
      · obtain ⟨p1, m1, rfl⟩ := List.mem_map.mp hu
        obtain ⟨p2, m2, rfl⟩ := List.mem_map.mp hv
        exact h2 p1.1 (List.mem_map.mpr ⟨p1, m1, rfl⟩) p2.1 (List.mem_map.mpr ⟨p2, m2, rfl⟩)
      · obtain ⟨p1, m1, rfl⟩ := List.mem_map.mp hu
        have := (h1 p1.1 (List.mem_map.mpr ⟨p1, m1, rfl⟩)).2
        cases e : p1.1 with
        | nil => exact absurd e this
        | cons k r => exact ⟨_, _, rfl⟩
      · have hpr : Paired (fun (k : List Key) (b : Addr) => w.H b = some (.tup (k.map kV))) ((bs.mergeSort (PySem.W.dataLe false fun b => encK b.1)).map (·.1)) ((bs.mergeSort (PySem.W.dataLe false fun b => encK b.1)).map (·.2)) := by
          have : ∀ b ∈ bs.mergeSort (PySem.W.dataLe false fun b => encK b.1), w.H b.2 = some (.tup (b.1.map kV)) := fun b hb => ht b ((List.mergeSort_perm _ _).mem_iff.mp hb)
          generalize bs.mergeSort (PySem.W.dataLe false fun b => encK b.1) = l at this
          induction l with
          | nil => exact .nil
          | cons b r ih => exact .cons (this b List.mem_cons_self) (ih fun x m => this x (List.mem_cons_of_mem _ m))
        obtain ⟨w2, e1, e2, o2, s2, r2⟩ := learn_all _ _ w o hpr
        have e3 : ((bs.mergeSort (PySem.W.dataLe false fun b => encK b.1)).map (·.1)).map (fun k => D.tup (k.map kD)) = (dvs.map fun p => tupK p.1).mergeSort leD := by
          have a1 := List.map_mergeSort (r := PySem.W.dataLe false fun b : List Key × Addr => encK b.1) (s := leD) (f := fun b => tupK b.1) (l := bs) fun a _ b _ => (leD_tupK a.1 b.1).symm
          rw [List.map_map]
          refine Eq.trans ?_ (a1.trans ?_)
          · rfl
          · have : (bs.map fun b => tupK b.1) = dvs.map fun p => tupK p.1 := by
              have := congrArg (List.map tupK) (hk.trans ek)
              rw [List.map_map, List.map_map] at this
              exact this
            rw [this]
        have e4 : ((bs.mergeSort (PySem.W.dataLe false fun b => encK b.1)).map fun b => V.ref b.2) = ((bs.mergeSort (PySem.W.dataLe false fun b => encK b.1)).map (·.2)).map V.ref := by rw [List.map_map]; rfl
        rw [e4, ← e2]
        rw [e3] at r2
        refine post_mkL (c := c) (E := E) o2 (Post.step s2 ?_) (by rw [e2]; exact np) r2
        rw [e1]; exact hp
end M

/-! try .. except C: return c, without a name -/
namespace M
open PySem PySem.Spec PyProof.Rows L2
theorem ms_tryO {X : Cx} {E : XK} {x : Str} {c : Value} {body : List Stmt} {e : Expr} {np pos pos' pr : Pos} {exm : Addr → Bool} {g : FS} {v0 : V} {d0 : D} (hs : X.stack = X.env :: X.outer) (hf : X.env.frame = some X.env.locals) (hc : Names X x c)
    (hexm : ∀ C, exm C = true → PySem.W.exmOne X.K (.ref C) c = some true)
    (hb : ∀ (E' : XK) (pn : List (Addr × Obj)) (xe : Value → Shared → Prop), Takes (X.tr pn xe) (fun c d _ H => E' c d H) → MSs (X.tr pn xe) E' body g) (he : ∀ X : Cx, PE X e (tC v0)) (hr : ∀ F α, Rep X.K F α v0 d0) :
    MS X E (.Try body [.ExceptHandler (some (.Name x np)) none [.Return (some e) pr] pos'] [] [] pos) (sTry exm g (xC d0)) := by
  refine ⟨_, ps_try_only (tb := fun W => tSg X.K (wishOf X.N.length W) g) (ts := fun a cls d => tRet (tC v0)) hs hf hc takes0
    (fun W pn xe tk pass => ?_) (fun a oe cls d pn hz hff => ?_), fun sl σ w D o s hp => ?_⟩
  · exact pss_sg (X := X.tr pn xe) (hb _ pn xe (takes_wish (X := X.tr pn xe) tk))
  · exact pss_one (ps_ret (he _))
  · refine ⟨sl, w, rfl, o, s, ?_⟩
    have hp : PostS X.K E w (match g sl w.st with
      | some (.exc e st) => if exm e.C = true then lift ((xC d0 e).map .rt) st else none
      | r => r) D := hp
    match q : g sl w.st, hp with
    | none, hp => exact hp
    | some (.ok f st), hp => exact hp
    | some (.exc e st), hp =>
      intro d w' est o' s' rx σ' hl
      obtain ⟨hx, hp⟩ := postS_ite (p := exm e.C = true) hp
      refine ⟨true, hexm _ hx, fun _ a na => ?_, fun z => by cases z⟩
      exact hp w' est o' s' v0 (hr _ _)
section
variable {cs : Cs} {X : Cx} {E : XK} {x : Str} {pos pr p2 : Pos}
theorem ms_tryOK {body : List Stmt} {b : Bool} {j : Nat} {np pos' : Pos} {g : FS} (Mo : ExmOk X.K X.mg cs x) (hb : ∀ (E' : XK) (pn : List (Addr × Obj)) (xe : Value → Shared → Prop), Takes (X.tr pn xe) (fun c d _ H => E' c d H) → MSs (X.tr pn xe) E' body g)
    (hs : X.stack = X.env :: X.outer := by rfl) (hf : X.env.frame = some X.env.locals := by rfl) (hg : Gl X x := by rfl) (hdb : (x == ("__debug__" : Str)) = false := by decide) :
    MS X E (.Try body [.ExceptHandler (some (.Name x np)) none [.Return (some (.Constant (.bool b) j p2)) pr] pos'] [] [] pos) (sTry (cs.exm x) g (xC (.bl b))) := ms_tryO hs hf ⟨hg, hdb, .inl Mo.at_⟩ Mo.ok hb (fun _ => pe_bl) fun _ _ => .bl b
end
/-! a value that is let be as it stands -/
def frzV (x : D) (st : Sto) : MM D := match x with
  | .ptr j => match st[j]? with
    | some (some (.lst ds)) => ret (.lst ds) (st.set j none)
    | some (some (.dct ds)) => ret (.dct ds) (st.set j none)
    | some (some (.dcT ds)) => ret (.dcT ds) (st.set j none)
    | _ => none
  | x => ret x st
def mFrzE (f : FE) : FE := fun sl st => bnd (f sl st) frzV
theorem ref_frzE {K : PySem.W.Frag} {E : XK} {t : TE} {f : FE} (h : RefE K E t f) : RefE K E t (mFrzE f) := fun sl σ w Q o s hp => by
  refine h sl σ w Q o s (post_bnd hp fun v x w1 o1 s1 r h1 => ?_)
  cases x with
  | ptr j =>
    have h1 : Post K E (rD K) w1 (match w1.st[j]? with
      | some (some (.lst ds)) => ret (.lst ds) (w1.st.set j none)
      | some (some (.dct ds)) => ret (.dct ds) (w1.st.set j none)
      | some (some (.dcT ds)) => ret (.dcT ds) (w1.st.set j none)
      | _ => none) Q := h1
    cases q : w1.st[j]? with
    | none => simp only [q] at h1; exact h1.elim
    | some oc =>
      cases oc with
      | none => simp only [q] at h1; exact h1.elim
      | some c =>
        obtain ⟨a, rfl, ha, hF, ca⟩ := cell_at o1 r q
        have lj : Live w1.st j := ⟨c, q⟩
        cases c with
        | lst ds =>
          simp only [q] at h1
          cases ca with
          | @lst xs _ hx rs =>
            have s2 := step_frz (u := .lst xs) o1 lj ha
            exact h1 _ (w1.frz j a _) rfl (ok_frz o1 lj ha hx) s2 (.lst (show upd w1.F a _ a = _ from upd_same) (rs.mono s2.le s2.pre))
        | dct ds =>
          simp only [q] at h1
          cases ca with
          | @dct kvs _ hx ek rs =>
            have s2 := step_frz (u := .dK kvs) o1 lj ha
            exact h1 _ (w1.frz j a _) rfl (ok_frz o1 lj ha hx) s2 (.dct (.inl (show upd w1.F a _ a = _ from upd_same)) ek (rs.mono s2.le s2.pre))
        | dcT ds =>
          simp only [q] at h1
          cases ca with
          | @dcT kvs _ hx ek rs =>
            have s2 := step_frz (u := .dT kvs) o1 lj ha
            exact h1 _ (w1.frz j a _) rfl (ok_frz o1 lj ha hx) s2 (.dcT (.inl (show upd w1.F a _ a = _ from upd_same)) ek (rs.mono s2.le s2.pre))
        | ins C fs => simp only [q] at h1; exact h1.elim
  | _ => exact post_ret o1 r h1
theorem me_frzE {X : Cx} {E : XK} {e : Expr} {f : FE} (h : ME X E e f) : ME X E e (mFrzE f) := by
  obtain ⟨t, p, q⟩ := h.ex
  exact ⟨t, p, ref_frzE q⟩
/-! a, b, c = x, y, z -/
def sPar3 (i j l : Nat) (f : FA) : FS := fun sl st => bnd (f sl st) fun ds st => match ds with
  | [x, y, z] => ret (.nx (((sl.set i (some x)).set j (some y)).set l (some z))) st
  | _ => none
section
variable {X : Cx} {E : XK} {a b c : Expr} {fs : FA} {pos : Pos}
theorem ms_par3 {i j l : Nat} {x y z : Str} {px py pz pt : Pos} {kt k2 pt2} (hc : X.calm = true) (hN : X.N.Nodup) (ha : MA X E [a, b, c] fs) (hij : i ≠ j) (hil : i ≠ l) (hjl : j ≠ l) (hi : X.N[i]? = some x := by rfl) (hj : X.N[j]? = some y := by rfl) (hl : X.N[l]? = some z := by rfl)
    (hx : X.env.scope.names.lookup x = some .local := by rfl) (hy : X.env.scope.names.lookup y = some .local := by rfl) (hz : X.env.scope.names.lookup z = some .local := by rfl)
    (hw : swappedStores [.Tuple [.Name x px, .Name y py, .Name z pz] kt pt] (.Tuple [a, b, c] k2 pt2) X.env = pure (some [x, y, z]) := by rfl)
    (hs : swapsWithSole [.Tuple [.Name x px, .Name y py, .Name z pz] kt pt] (.Tuple [a, b, c] k2 pt2) pos.line X.env = pure false := by rfl) : MS X E (.Assign [.Tuple [.Name x px, .Name y py, .Name z pz] kt pt] (.Tuple [a, b, c] k2 pt2) pos) (sPar3 i j l fs) := by
  obtain ⟨t, p, q⟩ := ha.ex
  refine ⟨_, ps_par3 hc hN hi hj hl hij hil hjl hx hy hz p hw hs, fun sl σ w D o s h => ?_⟩
  refine q sl σ w _ o s (post_bndS h fun vs ds w1 o1 s1 r hp => ?_)
  split at hp
  · obtain ⟨x, y, z, rfl, rx, ry, rz⟩ := r.three_inv
    exact ⟨x, y, z, rfl, postS_ret o1 hp _ ((((s.step s1).set rx).set ry).set rz)⟩
  · exact hp.elim
end
end M

/-! repr of a tuple whose items have dicts or lists, none both -/
namespace M
open PySem PySem.Spec PyProof.Rows L2
section
variable {prog : Program} {w : World} {h₀ : Heap}
inductive ReadsP (h : Heap) : List Value → List PyData → Prop
  | nil : ReadsP h [] []
  | cons {v : Value} {d : PyData} {as : List Addr} {vs : List Value} {ds : List PyData} (r : Reads h v d as) (n : d.hasDict = true → sysModules ∉ as) (t : ReadsP h vs ds) : ReadsP h (v :: vs) (d :: ds)
theorem ReadsP.all : ∀ {vs : List Value} {ds : List PyData}, ReadsP h₀ vs ds → ∃ as, ReadsAll h₀ vs ds as
  | _, _, .nil => ⟨_, .nil⟩
  | _, _, .cons r _ t => let ⟨_, q⟩ := ReadsP.all t; ⟨_, .cons r q⟩
theorem ReadsP.reprs : ∀ {vs : List Value} {ds : List PyData}, ReadsP h₀ vs ds → PyData.showableAll ds = true → (∀ t ∈ PyData.shownAll ds, t.length ≤ sizeLine) →
    ∃ bs, ReadAtMost h₀ (PyData.depthAll ds) bs ∧ ReprAllK prog w bs h₀ (PyData.depthAll ds) vs (PyData.shownAll ds)
  | _, _, .nil, _, _ => ⟨[], (fun _ h => nomatch h), by simp only [PyData.shownAll]; exact .nil⟩
  | _, _, .cons (d := d) (ds := ds) r hsm rs, hs, hz => by
    have hs' : d.showable = true ∧ PyData.showableAll ds = true := by simpa [PyData.showableAll] using hs
    obtain ⟨b1, hb1, k1⟩ := ReprK.of_reads (prog := prog) (w := w) r hs'.1 hsm (hz _ (by simp only [PyData.shownAll]; exact List.mem_cons_self ..))
    obtain ⟨b2, hb2, k2⟩ := ReadsP.reprs rs hs'.2 (fun t ht => hz t (by simp only [PyData.shownAll]; exact List.mem_cons_of_mem _ ht))
    refine ⟨b1 ++ b2, ?_, ?_⟩
    · intro b hm
      simp only [PyData.depthAll]
      rcases List.mem_append.mp hm with hm | hm
      · obtain ⟨d', as', r', hd'⟩ := hb1 b hm
        exact ⟨d', as', r', Nat.le_trans hd' (Nat.le_max_left _ _)⟩
      · obtain ⟨d', as', r', hd'⟩ := hb2 b hm
        exact ⟨d', as', r', Nat.le_trans hd' (Nat.le_max_right _ _)⟩
    · simp only [PyData.depthAll, PyData.shownAll]
      exact .cons ((k1.more fun b hb => List.mem_append_left _ hb).level_le (Nat.le_max_left _ _)) (k2.more_le (fun b hb => List.mem_append_right _ hb) (Nat.le_max_right _ _))
theorem call_repr_tup {A : Around} {E : Value → Shared → Prop} {s : Shared} {Q : Value → Shared → Prop} {a : Addr} {o : Obj} {its : List Value} {n : Nat} {ds : List PyData} (ho : s.heap.get? a = some o) (hc : o.cls = .type "tuple") (hd : o.data = .seq its.toArray n) (r : ReadsP s.heap its ds)
    (hs : PyData.showableAll ds = true) (hg : A.guards = some []) (hu : A.units + ((PyData.tuple ds).depth + 1) < cLine) (hsz : (PyData.tuple ds).shown.length ≤ sizeLine)
    (hQ : ∀ h' u tk, (∀ b o, s.heap.get? b = some o → h'.get? b = some o) → Q (.str (PyData.tuple ds).shown u) { s with heap := h', toks := tk }) : wpAny (model prog w) A (call (.builtin "repr") [.ref a]) Q E s := by
  obtain ⟨as, ra⟩ := r.all
  have hz' : (tupleText (PyData.shownAll ds)).length ≤ sizeLine := by simpa only [PyData.shown] using hsz
  obtain ⟨bs, hb, hk⟩ := r.reprs (prog := prog) (w := w) hs (fun t ht => Nat.le_trans (tupleText_mem_le ht) hz')
  have hna : a ∉ bs := not_mem_of_deeper (.tuple ho hc hd (by simpa using ra)) (by simp only [PyData.depth]; omega) hb
  refine call_repr_slot (by omega) (show s.TypeIs (.ref a) "tuple" from ⟨o, ho, hc⟩) F.slot_tuple_repr ?_
  have hu2 : A.in1.units + (PyData.tuple ds).depth < cLine := by show A.units + 1 + (PyData.tuple ds).depth < cLine; omega
  simp only [PyData.depth] at hu2
  simp only [PyData.shown] at hQ
  exact call_tuple_reprK (h₀ := s.heap) ho hc hd hna (by simpa using hk) (A := A.in1) hg (fun b _ => Clear.nil b) hu2 (fun _ _ e => e) (fun h' u tk hk => ⟨_, _, rfl, hQ h' u tk hk⟩) hz'
end
section
variable {X : Cx}
def reprOk2 (ds : List PyData) : Bool := ds.all (fun d => !d.hasDict || noLs d) && PyData.showableAll ds && decide ((PyData.tuple ds).shown.length ≤ 10000000) && decide ((PyData.tuple ds).depth ≤ 60)
def rRepr2 (K : PySem.W.Frag) : List V → Hp → VK → Prop := fun xs H Q => ∃ a vs ds, xs = [.ref a] ∧ SqT K H a vs ∧ DqAll K H vs ds ∧ reprOk2 ds = true ∧ Q (.str (PyData.tuple ds).shown) H
theorem readsP_of {pins : List (Addr × Obj)} {σ : L2.St} {H : Hp} {s : Shared} (I : L2.Inv X pins σ H s) : ∀ {vs : List V} {us : List Value} {ds : List PyData}, DqAll X.K H vs ds → Vals vs us → (∀ d ∈ ds, d.hasDict = false ∨ noLs d = true) → ReadsP s.heap us ds
  | _, _, _, .nil, .nil, _ => .nil
  | _, _, _, .cons (d := d) h q, .cons r rs, hh => by
    obtain ⟨as, h1, n1⟩ := Dq.reads I h r
    refine .cons h1 (fun e => ?_) (readsP_of I q rs fun d m => hh d (List.mem_cons_of_mem _ m))
    rcases hh d List.mem_cons_self with z | z
    · rw [z] at e; cases e
    · exact n1 z
theorem call_repr2 (hg : X.A.guards = some []) (hu : X.A.units + 64 < cLine) : CallR X (.builtin "repr") (rRepr2 X.K) := by
  intro pins s σ H xs us Q I r h
  obtain ⟨a, vs, ds, rfl, ht, hd, ok, q⟩ := h
  obtain ⟨u, rfl, ru⟩ := vals1 r
  cases ru
  obtain ⟨its, rv, ⟨o, ho, hc, n, hdt⟩, _⟩ := I.tuple ht
  unfold reprOk2 at ok
  simp only [Bool.and_eq_true, List.all_eq_true, Bool.or_eq_true, decide_eq_true_eq, Bool.not_eq_true'] at ok
  obtain ⟨⟨⟨o1, o2⟩, o3⟩, o4⟩ := ok
  refine call_repr_tup ho hc hdt (readsP_of I hd rv o1) o2 hg (by omega) (by rw [sizeLine_eq]; omega) fun h' u tk hk => ?_
  exact ⟨.str _, H, I.kept hk, ⟨u, rfl⟩, q⟩
end
def cRepr2 (st : Sto) (ds : List D) : MM D := match ds with
  | [.tup es] => match dqs es with
    | some xs => if reprOk2 xs = true then ret (.str (PyData.tuple xs).shown) st else none
    | none => none
  | _ => none
theorem rf_repr2 {K : PySem.W.Frag} {E : XK} : RfC K E (rRepr2 K) cRepr2 := fun xs ds w Q o r hp => by
  unfold cRepr2 at hp
  split at hp
  · rename_i es
    obtain ⟨v, rfl, rx⟩ := r.one_inv
    obtain ⟨a, vs, rfl, f, rs⟩ := rx.tup_inv
    cases q : dqs es with
    | none => simp only [q] at hp; exact hp.elim
    | some x =>
      simp only [q] at hp
      obtain ⟨h1, hp⟩ := post_ite hp
      exact ⟨a, vs, x, rfl, SqT.of (o.sub _ _ f), dqs_rep o rs q, h1, post_ret o (.str _) hp⟩
  · exact hp.elim
theorem ens_repr2 {st : Sto} {es : List D} {xs : List PyData} {Q : D → Sto → Prop} (e : dqs es = some xs) (h : reprOk2 xs = true) (q : Q (.str (PyData.tuple xs).shown) st) : Ens (cRepr2 st [.tup es]) Q := by
  unfold cRepr2
  simp only [e]
  exact ens_ite h (ens_ret q)
end M

/-! more rules: zip of two lists, list.extend, f-strings -/
namespace M
open PySem L2
section
variable {X : Cx} {E : XK} {K : PySem.W.Frag} {a b c e e2 o tg : Expr} {es : List Expr} {fa fb fc : FE} {fs : FA} {pos apos cpos : Pos}
/-- pairs of two lists, as long as the shorter one -/
def zipD (ds es : List D) : List D := (ds.zip es).map fun p => .tup [p.1, p.2]
theorem seq_zip {w : Ws} {a b : Addr} {xs ys : List V} {ds es : List D} (h : SqL K w.F a xs) (h2 : SqL K w.F b ys) (r : Reps K w.F w.al xs ds) (r2 : Reps K w.F w.al ys es) : SeqIt K w (Itz K a b) (zipD ds es) := fun w' o s => by
  have h' := s.sqL o h
  have h2' := s.sqL o h2
  have l1 := r.length
  have l2 := r2.length
  have el : (zipD ds es).length = min ds.length es.length := by unfold zipD; rw [List.length_map, List.length_zip]
  refine ⟨⟨xs, ys, h', h2', by rw [el]; omega⟩, fun i d e => ?_⟩
  have hi : i < min ds.length es.length := by
    by_cases z : i < min ds.length es.length
    · exact z
    · rw [List.getElem?_eq_none (by rw [el]; omega)] at e; cases e
  have i1 : i < ds.length := by omega
  have i2 : i < es.length := by omega
  have e' : d = .tup [ds[i], es[i]] := by
    unfold zipD at e
    rw [List.getElem?_map, List.getElem?_eq_getElem (by rw [List.length_zip]; exact hi), List.getElem_zip] at e
    exact (Option.some.inj e).symm
  subst e'
  obtain ⟨v, e1, rv⟩ := r.get (List.getElem?_eq_getElem i1)
  obtain ⟨u, e2, ru⟩ := r2.get (List.getElem?_eq_getElem i2)
  refine ⟨⟨xs, ys, v, u, h', h2', e1, e2⟩, fun x H' hy => ?_⟩
  obtain ⟨T, p, q, rfl, nT, rfl, hp, hq⟩ := hy
  have ep : p = v := Option.some.inj ((hp xs h').symm.trans e1)
  have eq : q = u := Option.some.inj ((hq ys h2').symm.trans e2)
  subst ep; subst eq
  have s2 := step_newV o nT (.tup [p, q])
  exact ⟨w'.newV T (.tup [p, q]), rfl, rfl, ok_newV o nT _, s2, .tup (show upd w'.F T _ T = _ from upd_same) (.cons ((rv.mono s.le s.pre).mono s2.le s2.pre) (.cons ((ru.mono s.le s.pre).mono s2.le s2.pre) .nil))⟩
def iZ (f : FA) : FA := fun sl st => bnd (f sl st) fun ds st => match ds with
  | [d, e] => match seqOf d, seqOf e with
    | some ds, some es => ret (zipD ds es) st
    | _, _ => none
  | _ => none
theorem mi_zip {elts : List Expr} {kk : Nat} {tpos p : Pos} (ha : MA X E [e, e2] fs) (hm : X.mg "zip" = none) (hg : Gl X "zip" := by rfl)
    (hs : starEach [e, e2] X.env = (false, eval e X.env) :: starEach [e2] X.env := by rfl) (hpl : (backTo pos (starEach [e2] X.env)).any (·.1) = false := by rfl) : MI X E (.Tuple elts kk tpos) (.Call (.Name "zip" p) [e, e2] [] pos) (iZ fs) := by
  obtain ⟨t, p, q⟩ := ha.ex
  refine ⟨_, pi_zip hg hm p hs hpl, fun sl σ w R o s h => ?_⟩
  refine q sl σ w _ o s (post_bnd h fun vs ds w1 o1 s1 r hp => ?_)
  split at hp
  · rename_i d e
    obtain ⟨x, y, rfl, rx, ry⟩ := r.two_inv
    cases hd : seqOf d with
    | none => rw [hd] at hp; exact hp.elim
    | some ds =>
      cases he : seqOf e with
      | none => rw [hd, he] at hp; exact hp.elim
      | some es =>
        rw [hd, he] at hp
        obtain ⟨a, xs, rfl, h1, rs⟩ := seqOf_rep rx hd
        obtain ⟨b, ys, rfl, h2, rs2⟩ := seqOf_rep ry he
        exact ⟨a, b, xs, ys, rfl, sub_sqL o1 h1, sub_sqL o1 h2, post_ret (rp := fun w J ds => SeqIt X.K w J ds) o1 (seq_zip h1 h2 rs rs2) hp⟩
  · exact hp.elim
/-! sum -/
def cSum (st : Sto) (ds : List D) : MM D := match ds with
  | [x] => match (lstOf st x).bind intsOf with
    | some is => ret (.int is.sum) st
    | none => none
  | _ => none
theorem rf_sum : RfC K E (rSum K) cSum := fun xs ds w Q o r hp => by
  unfold cSum at hp
  split at hp
  · rename_i d
    obtain ⟨x, rfl, rx⟩ := r.one_inv
    cases h1 : lstOf w.st d with
    | none => simp only [h1, Option.bind_none] at hp; exact hp.elim
    | some es =>
      simp only [h1, Option.bind_some] at hp
      cases h2 : intsOf es with
      | none => simp only [h2] at hp; exact hp.elim
      | some is =>
        simp only [h2] at hp
        obtain ⟨a, vs, rfl, hs, rs⟩ := lstOf_rep o rx h1
        rw [intsOf_rep rs h2] at hs
        exact ⟨a, is, rfl, hs, post_ret o (.int _) hp⟩
  · exact hp.elim
/-! list.extend -/
def gExtend (st : Sto) (x : D) (as : List D) : MM D := match x, as with
  | .ptr i, [y] => match cellL st i, lstOn st y with
    | some ds, some es => if ds.length + es.length ≤ sizeLine then putL i (ds ++ es) .non st else none
    | _, _ => none
  | _, _ => none
theorem rf_extend : RfM K E rExtend gExtend := fun x dx xs ds w Q o rx rs h => by
  unfold gExtend at h
  split at h
  · rename_i i y
    cases q : cellL w.st i with
    | none => rw [q] at h; exact h.elim
    | some ds =>
      cases q2 : lstOn w.st y with
      | none => rw [q, q2] at h; exact h.elim
      | some es =>
        rw [q, q2] at h
        obtain ⟨hl, h⟩ := post_ite h
        obtain ⟨a, ys, rfl, ea, es', hx, r⟩ := cell_lst o rx q
        obtain ⟨y', rfl, ry⟩ := rs.one_inv
        obtain ⟨b, zs, rfl, hb, r2⟩ := lstOn_rep o ry q2
        exact ⟨a, b, ys, zs, rfl, rfl, hx, hb, by rw [r.length, r2.length]; exact hl, post_putL o es' ea h .non (r.append r2)⟩
  · exact h.elim
theorem me_extend (ho : ME X E o fa) (ha : MA X E [e] fs) (hbase : attributeBase o "extend" X.env (eval o X.env) = eval o X.env := by rfl)
    (hfew : ((backTo cpos (starEach [e] X.env)).all (fun x => !x.1) && (backToKw cpos (keywordEach [] X.env)).all (fun x => x.1.isSome)
      && decide ([e].length + ([] : List Keyword).length + (if ([] : List Keyword).isEmpty then 0 else 1) < 30)) = true := by rfl)
    (hline : (apos.endLine == cpos.line) = true := by rfl) (hs : starEach [e] X.env = (false, eval e X.env) :: starEach [] X.env := by rfl) (hplain : (backTo cpos (starEach [] X.env)).any (·.1) = false := by rfl) :
    ME X E (.Call (.Attribute o "extend" apos) [e] [] cpos) (mBM "list" gExtend fa fs) := me_bm PySem.F.plainAttrs_list PySem.F.slot_list_extend PySem.F.type_list_extend mt_extend rf_extend ho ha hbase hfew hline hs hplain
/-! f'..' -/
def mFmt (f : FE) : FE := fun sl st => bnd (f sl st) fun x st => match x with
  | .str y => if y.length ≤ sizeLine then ret (.str y) st else none
  | .int i => if i.natAbs.log2 < 1920 then ret (.str (toString i)) st else none
  | _ => none
theorem me_fmt (h : ME X E e fa) : ME X E (.FormattedValue e (-1) none pos) (mFmt fa) := by
  obtain ⟨t, p, q⟩ := h.ex
  refine ⟨_, pe_fmt p, fun sl σ w Q o s h => ?_⟩
  refine q sl σ w _ o s (post_bnd h fun v d w1 o1 s1 r hp => ?_)
  cases d with
  | str y =>
    obtain ⟨hl, hp⟩ := post_ite (p := y.length ≤ sizeLine) hp
    exact .inl ⟨y, r.str_inv, hl, post_ret o1 (.str y) hp⟩
  | int i =>
    obtain ⟨hl, hp⟩ := post_ite (p := i.natAbs.log2 < 1920) hp
    exact .inr ⟨i, r.int_inv, hl, post_ret o1 (.str _) hp⟩
  | _ => exact hp.elim
end
/-! their runs -/
section
variable {Q : D → Sto → Prop} {P : List D → Sto → Prop} {sl : Sl} {st : Sto}
theorem ens_Z {g : FA} (q : Ens (g sl st) fun ds st => ∃ d e xs ys, ds = [d, e] ∧ seqOf d = some xs ∧ seqOf e = some ys ∧ P (zipD xs ys) st) : Ens (iZ g sl st) P := ens_bnd (q.imp fun _ _ ⟨_, _, _, _, e, e1, e2, q⟩ => by subst e; simp only [e1, e2]; exact ens_ret q)
theorem ens_sum {x : D} {is : List Int} (e : lstOf st x = some (iDs is)) (q : Q (.int is.sum) st) : Ens (cSum st [x]) Q := by
  show Ens (match (lstOf st x).bind intsOf with
    | some is => ret (.int is.sum) st
    | none => none) Q
  rw [e]
  show Ens (match intsOf (is.map .int) with
    | some is => ret (.int is.sum) st
    | none => none) Q
  rw [intsOf_map]
  exact ens_ret q
theorem ens_ext {i : Nat} {y : D} {ds es : List D} (e : st[i]? = some (some (.lst ds))) (e2 : lstOn st y = some es) (h : ds.length + es.length ≤ 10000000) (q : Q .non (st.set i (some (.lst (ds ++ es))))) : Ens (gExtend st (.ptr i) [y]) Q := by
  have e3 : cellL st i = some ds := by unfold cellL; rw [e]
  show Ens (match cellL st i, lstOn st y with
    | some ds, some es => if ds.length + es.length ≤ sizeLine then putL i (ds ++ es) .non st else none
    | _, _ => none) Q
  rw [e3, e2]
  exact ens_ite (by unfold PySem.sizeLine; omega) (ens_ret q)
end
end M

/-! tuples added, any of them empty: t + u, t += u -/
namespace M
open PySem PySem.Spec PyProof.Rows L2
theorem noI_tup : typeLookup (.type "tuple") (dunderI "add") = pure none := by rw [typeLookup_type, builtinLookup_eq_fast]; kernel_rfl
section
variable {prog : Program} {w : World} {A : Around} {E : Value → Shared → Prop} {s : Shared}
theorem icat_all {t b : Addr} {vs ws : List Value} {Q : Value → Shared → Prop} (ht : IsTup s.heap t vs.toArray) (hb : IsTup s.heap b ws.toArray)
    (h0 : vs = [] → Q (.ref b) s) (h1 : vs ≠ [] → ws = [] → Q (.ref t) s) (h2 : vs ≠ [] → ws ≠ [] → Q (.ref s.heap.objs.size) { s with heap := s.heap.push { cls := .type "tuple", data := .seq (vs ++ ws).toArray } })
    (hsz : vs.length + ws.length ≤ sizeLine) : wpAny (model prog w) A (inplaceOp .Add (.ref t) (.ref b)) Q E s := by
  obtain ⟨⟨cls, dd, data, sl⟩, ho, hc, n, hd⟩ := id ht
  obtain ⟨⟨cls2, dd2, data2, sl2⟩, ho2, hc2, n2, hd2⟩ := id hb
  simp only at hc hd hc2 hd2
  subst hc hd hc2 hd2
  have e : vs.toArray ++ ws.toArray = (vs ++ ws).toArray := by simp
  refine wpAny_inplaceOp_concat ⟨_, ho, rfl⟩ ⟨_, ho2, rfl⟩ noI_tup noFill_tuple_add seq_tuple_add ?_
  by_cases hv : vs = []
  · exact call_meets PySem.F.slot_tuple_add ⟨_, ho, rfl⟩ PySem.F.entry_tuple_add (PySem.F.args_tuple_add_2 _ _) (tuple_addW0 t b vs.toArray ws.toArray n n2 dd dd2 sl sl2 (by simp [hv])) ⟨ho, ho2, h0 hv⟩
  · by_cases hw : ws = []
    · exact call_meets PySem.F.slot_tuple_add ⟨_, ho, rfl⟩ PySem.F.entry_tuple_add (PySem.F.args_tuple_add_2 _ _) (tuple_addW1 t b vs.toArray ws.toArray n n2 dd dd2 sl sl2 (by simpa using hv) (by simp [hw])) ⟨ho, ho2, h1 hv hw⟩
    · refine call_meets PySem.F.slot_tuple_add ⟨_, ho, rfl⟩ PySem.F.entry_tuple_add (PySem.F.args_tuple_add_2 _ _) (tuple_addW2 t b vs.toArray ws.toArray n n2 dd dd2 sl sl2 (by simpa using hv) (by simpa using hw) (by rw [List.size_toArray, List.size_toArray]; exact hsz)) ⟨ho, ho2, ?_⟩
      rw [e]
      exact h2 hv hw
end
section
variable {X : Cx} {E : XK} {K : PySem.W.Frag} {a b : Expr} {fa fb : FE} {pos : Pos}
theorem iop_catA : OpR X (inplaceOp .Add) (rCatA X.K) := by
  intro pins s σ H x y v u Q I rx ry h
  obtain ⟨a, b, xs, ys, rfl, rfl, ha, hb, hz, q0, q1, q2⟩ := h
  cases rx
  cases ry
  obtain ⟨its, r1, p1, _⟩ := I.tuple ha
  obtain ⟨its2, r2, p2, _⟩ := I.tuple hb
  refine icat_all p1 p2 (fun z => ⟨.ref b, H, I, rfl, q0 (r1.nil_iff.mp z)⟩) (fun z z2 => ⟨.ref a, H, I, rfl, q1 (fun e => z (r1.nil_iff.mpr e)) (r2.nil_iff.mp z2)⟩) (fun z z2 => ?_) (by rw [← r1.length, ← r2.length]; exact hz)
  refine ⟨.ref s.heap.objs.size, _, I.laid (t' := s.toks) (o := .tup (xs ++ ys)) (fun b ob q => Heap.get?_push_of_some _ q) (Nat.le_refl _) ?_, rfl, q2 (fun e => z (r1.nil_iff.mpr e)) (fun e => z2 (r2.nil_iff.mpr e)) _ (I.hok.fresh (Nat.le_refl _))⟩
  exact ⟨by rw [List.length_append]; exact hz, its ++ its2, r1.append r2, ⟨_, Heap.get?_push_size s.heap rfl, rfl, 0, rfl⟩⟩
def gCatA (st : Sto) (x y : D) : MM D := match x, y with
  | .tup xs, .tup ys => if xs.length + ys.length ≤ sizeLine then ret (.tup (xs ++ ys)) st else none
  | _, _ => none
theorem rf_catA : Rf2 K E (rCatA K) gCatA := fun x y dx dy w Q o rx ry hp => by
  cases dx with
  | tup xs =>
    cases dy with
    | tup ys =>
      obtain ⟨h3, hp⟩ := post_ite (p := xs.length + ys.length ≤ sizeLine) hp
      obtain ⟨a, us, rfl, fa, ra⟩ := rx.tup_inv
      obtain ⟨b, vs, rfl, fb, rb⟩ := ry.tup_inv
      refine ⟨a, b, us, vs, rfl, rfl, SqT.of (o.sub _ _ fa), SqT.of (o.sub _ _ fb), by rw [ra.length, rb.length]; exact h3, fun z => ?_, fun _ z => ?_, fun _ _ p np => ?_⟩
      · have e : xs = [] := ra.nil_iff.mp z
        subst e
        exact post_ret o (.tup fb rb) hp
      · have e : ys = [] := rb.nil_iff.mp z
        subst e
        rw [List.append_nil] at hp
        exact post_ret o (.tup fa ra) hp
      · have s := step_newV o np (.tup (us ++ vs))
        exact hp (.ref p) (w.newV p (.tup (us ++ vs))) rfl (ok_newV o np _) s (.tup (show upd w.F p _ p = _ from upd_same) ((ra.append rb).mono s.le s.pre))
    | _ => exact hp.elim
  | _ => exact hp.elim
theorem me_catA (ha : ME X E a fa) (hb : ME X E b fb) : ME X E (.BinOp a .Add b pos) (mBin gCatA fa fb) := me_bin op_catA rf_catA ha hb
theorem rip_catA : RfIp K E (rCatA K) gCatA := rf_catA
theorem ip_catA : PIp X .Add (rCatA X.K) := iop_catA
end
theorem ens_catA {xs ys : List D} {st : Sto} {Q : D → Sto → Prop} (h : xs.length + ys.length ≤ 1000000 ∧ Q (.tup (xs ++ ys)) st) : Ens (gCatA st (.tup xs) (.tup ys)) Q := ens_ite (by have := h.1; unfold PySem.sizeLine; omega) (ens_ret h.2)
end M

/-! whole numbers of any size: products, and // by any positive divisor (what stands in sys.modules is known then). -/
namespace M
open PySem PySem.Spec PyProof.Rows L2
section
variable {P : Program} {w : World} {K : PySem.W.Frag} {mg : Str → Option Value} {base : Heap}
def HereS (P : Program) (w : World) (K : PySem.W.Frag) (mg : Str → Option Value) (f : Addr) (fd : FuncData) : Prop := ∀ (base : Heap), K.In base → base.Ns mainGlobals mg → base.NoSeer → ∀ (s : Shared) (H : Hp) (a : Addr) (ns : List Int), Env0 P w K mg base callerA [] s H →
  BindsTo s fd ⟨[.ref a], []⟩ [("script", .ref a)] → SqL K H a (ns.map V.int) → ns.length ≤ 63 → (∀ z ∈ ns, Builtin.Int.intBits z ≤ 1048576) →
  codeAny (model P w) callerA (.call (.ref f) ⟨[.ref a], []⟩) (CR CX0 [] P w H s (fun v _ => v = .bl true) (fun _ _ _ => False)) s
theorem hid_seer {H : Hp} {h : Heap} {a : Addr} {o : Obj} (sr : h.NoSeer) (nd : ∀ b o (es : Array DictEntry) (n : Nat), h.get? b = some o → o.data = .dict es n → H b = none) (at_a : ∀ b, H b ≠ none → b = a) (obj : h.get? a = some o) (hc : o.cls ≠ .type "module") : (hidT h H).NoSeer where
  statics := let ⟨mc, x, y⟩ := sr.statics; ⟨mc, hid_ns nd x, y⟩
  mods := let ⟨mc, x, y⟩ := sr.mods; ⟨mc, hid_ns nd x, y⟩
  imp := let ⟨mc, x, y⟩ := sr.imp; ⟨mc, hid_ns nd x, y⟩
  main := by
    obtain ⟨mg, bm, ob, a1, a2, a3, a4, a5⟩ := sr.main
    refine ⟨mg, bm, ob, hid_ns nd a1, a2, hidT_get a3 ?_, a4, a5⟩
    match hb : H bm with
    | none => rfl
    | some _ =>
      have e := at_a bm (by rw [hb]; exact Option.some_ne_none _)
      subst e
      rw [obj] at a3
      cases a3
      exact absurd a4 hc
theorem here_coreS {H : Hp} {s1 : Shared} {mb : Str → Option Value} {f a : Addr} {fd : FuncData} {vs : List Value} {ns : List Int} (F : HereS P w K mg f fd) (bind : ∀ (s : Shared) (u : Value), BindsTo s fd ⟨[u], []⟩ [("script", u)])
    (kin : K.In s1.heap) (g1 : s1.heap.Ns mainGlobals mg) (g2 : s1.heap.Ns builtinsNs mb) (g3 : ∀ x : Str, x ≠ "__name__" → mb x = bootBuiltins x) (g4 : s1.heap.NoLimit) (g6 : s1.heap.NoSeer) (g5 : s1.gens = #[])
    (obj : s1.heap.get? a = some { cls := .type "list", data := .seq vs.toArray }) (hl : ns.length ≤ 63) (bits : ∀ z ∈ ns, Builtin.Int.intBits z ≤ 1048576)
    (only : Only H) (sq : SqL K H a (ns.map V.int)) (ok1 : HOk P w H s1.heap) (at_a : ∀ b, H b ≠ none → b = a) (noK : H a ≠ none → K.lookup a = none) :
    codeAny (model P w) callerA (.call (.ref f) ⟨[.ref a], []⟩) (fun r s2 => r = .ok (.ret (.bool true)) ∧ OldK s1.heap s2.heap ∧ s2.os = s1.os ∧ AllBare s2.gens) s1 := by
  have nd : ∀ b o (es : Array DictEntry) (n : Nat), s1.heap.get? b = some o → o.data = .dict es n → H b = none := fun b o es n e d => by
    match hb : H b with
    | none => rfl
    | some _ =>
      obtain rfl := at_a b (by rw [hb]; exact Option.some_ne_none _)
      rw [obj] at e
      cases e
      have d2 : Data.seq vs.toArray _ = Data.dict es n := d
      cases d2
  have kin2 : K.In (hidT s1.heap H) := fun b o e => hidT_get (kin b o e) (by
    match hb : H b with
    | none => rfl
    | some _ =>
      obtain rfl := at_a b (by rw [hb]; exact Option.some_ne_none _)
      rw [noK (by rw [hb]; exact Option.some_ne_none _)] at e
      cases e)
  have lim2 : (hidT s1.heap H).NoLimit := by
    obtain ⟨mc, n1, n2⟩ := g4
    exact ⟨mc, hid_ns nd n1, n2⟩
  have md : Mod K mg (hidT s1.heap H) := ⟨kin2, hid_ns nd g1, ⟨mb, hid_ns nd g2, g3⟩, lim2⟩
  have e0 : Env0 P w K mg (hidT s1.heap H) callerA [] s1 H := ⟨rfl, md, fun _ _ e => of_hidT e, Nat.le_of_eq (hidT_size _ _), trivial, fun b m => absurd (show b ∈ ([] : List Addr) from m) (by simp), ok1, AllBare.of_eq g5⟩
  exact codeAny_mono (F _ kin2 (hid_ns nd g1) (hid_seer g6 nd at_a obj (show Value.type "list" ≠ .type "module" by decide)) s1 H a ns e0 (bind _ _) sq hl bits) fun r s2 c => ends_well only ok1 c
theorem here_callS {s1 : Shared} {mb : Str → Option Value} {f a : Addr} {fd : FuncData} {vs : List Value} {ns : List Int} (F : HereS P w K mg f fd) (bind : ∀ (s : Shared) (u : Value), BindsTo s fd ⟨[u], []⟩ [("script", u)])
    (kin : K.In s1.heap) (g1 : s1.heap.Ns mainGlobals mg) (g2 : s1.heap.Ns builtinsNs mb) (g3 : ∀ x : Str, x ≠ "__name__" → mb x = bootBuiltins x) (g4 : s1.heap.NoLimit) (g6 : s1.heap.NoSeer) (g5 : s1.gens = #[])
    (obj : s1.heap.get? a = some { cls := .type "list", data := .seq vs.toArray }) (iv : IntsAre vs ns) (hl : ns.length ≤ 63) (bits : ∀ z ∈ ns, Builtin.Int.intBits z ≤ 1048576) :
    codeAny (model P w) callerA (.call (.ref f) ⟨[.ref a], []⟩) (fun r s2 => r = .ok (.ret (.bool true)) ∧ OldK s1.heap s2.heap ∧ s2.os = s1.os ∧ AllBare s2.gens) s1 := by
  have rv := vals_ints iv
  have lv := iv.length
  have big : ns.length ≤ sizeLine := by rw [sizeLine_eq]; omega
  match hk : K.lookup a with
  | some o =>
    have e := kin a o hk
    rw [obj] at e
    cases e
    exact here_coreS (H := fun _ => none) F bind kin g1 g2 g3 g4 g6 g5 obj hl bits (fun _ => .inl rfl) (.inr ⟨_, vs.toArray, _, hk, rfl, rfl, rfl, by rw [List.size_toArray, lv]; exact big, by simpa using rv⟩) (fun b u z => by cases z) (fun b z => absurd rfl z) fun z => absurd rfl z
  | none =>
    let H : Hp := fun b => if b = a then some (.frz { cls := .type "list", data := .seq vs.toArray } (.lst (ns.map V.int))) else none
    have at1 : H a = some (.frz { cls := .type "list", data := .seq vs.toArray } (.lst (ns.map V.int))) := if_pos rfl
    have at2 : ∀ b, b ≠ a → H b = none := fun b z => if_neg z
    refine here_coreS (H := H) F bind kin g1 g2 g3 g4 g6 g5 obj hl bits (fun b => ?_) (.inl (.inr ⟨_, at1⟩)) (fun b u z => ?_) (fun b z => ?_) fun _ => hk
    · exact (Classical.em (b = a)).elim (fun e => .inr ⟨_, _, by rw [e]; exact at1⟩) fun e => .inl (at2 b e)
    · rcases Classical.em (b = a) with rfl | e
      · rw [at1] at z
        cases z
        exact ⟨obj, by rw [List.length_map]; exact big, vs, _, rv, obj⟩
      · rw [at2 b e] at z; cases z
    · exact Classical.byContradiction fun e => z (at2 b e)
end
theorem walk_hereS {l : PySem.W.OpenLaw} {q : Program} {loose : List Str} {XP : (Str → Option Value) → Heap → Prop} {YP : World → Heap → Prop} {d : DefRec} {K : Params → PySem.W.Frag}
    (hn : l.most = some 63) (hdf : d.params.defaults = []) (hY : ∀ (w : World) (h : Heap), YP w h → (K w.params).In h) (hq : importsNone q = true)
    (F : ∀ (w : World) (mg : Str → Option Value) (fa : Addr) (h : Heap), (K w.params).In h → h.Ns mainGlobals mg → mg d.name = some (.ref fa) →
      ∃ fd : FuncData, (∀ (s : Shared) (u : Value), BindsTo s fd ⟨[u], []⟩ [("script", u)]) ∧ HereS l.prog w (K w.params) mg fa fd) :
    PySem.W.WalkO q loose XP YP l.row.toRowW d [] (fun f vs => PySem.call f vs) := by
  refine Att.attach_callB hn hdf fun w s0 s1 mg mb fa o pm cd doc a vs ns G Y _ _ _ hmg obj iv hlen bits gens => ?_
  have kin := hY w _ Y
  obtain ⟨fd, bind, hF⟩ := F w mg fa _ kin G.T.g hmg
  exact here_callS hF bind kin G.T.g G.T.b G.T.builtins G.T.nolimit (G.T.seer hq) gens obj iv hlen bits
/-! ### the rules -/
section
variable {X : Cx} {E : XK} {K : PySem.W.Frag} {a b : Expr} {fa fb : FE} {pos : Pos}
theorem op_fdivP (hS : X.base.NoSeer) (ht : X.prog.given.tree = none) (hd : X.A.depth + 100 < recursionLimit) (hst : X.stack = X.env :: X.outer) (hgen : X.env.scope.isGenerator = false) (hco : X.env.scope.isCoroutine = false) :
    OpR X (binaryOp .FloorDiv) (rI (fun _ j => 0 < j) fun i j => .int (i / j)) := by
  intro pins s σ H x y v u Q I rx ry h
  obtain ⟨i, j, rfl, rfl, hc, q⟩ := h
  obtain ⟨t, rfl⟩ := rx
  obtain ⟨t', rfl⟩ := ry
  have h1 : (0 : Int) < j := hc
  have hf : X.A.frames = some (X.env :: X.outer) := I.ok.frames.trans (by rw [hst])
  refine floordiv_int (by omega) ?_ (.inr (PylongRoom.of I.nolimit hd (SeerAt.of (hS.keeps I.bk) ht hf hgen hco I.ok.blt I.ok.glob)))
  rw [Int.fdiv_eq_ediv_of_nonneg i (by omega)]
  exact ⟨.int (i / j), H, I.tok _, ⟨_, rfl⟩, q⟩
abbrev gDivP := gI (fun _ j => 0 < j) fun i j => .int (i / j)
theorem me_divP (hS : X.base.NoSeer) (ht : X.prog.given.tree = none) (hd : X.A.depth + 100 < recursionLimit) (hgen : X.env.scope.isGenerator = false) (hco : X.env.scope.isCoroutine = false) (ha : ME X E a fa) (hb : ME X E b fb) (hst : X.stack = X.env :: X.outer := by rfl) : ME X E (.BinOp a .FloorDiv b pos) (mBin gDivP fa fb) :=
  me_bin (op_fdivP hS ht hd hst hgen hco) (rf_I fun _ _ _ _ => .int _) ha hb
def CMx (i j : Int) : Prop := (Builtin.Int.intBits i : Int) + (Builtin.Int.intBits j : Int) ≤ 134217728
instance (i j : Int) : Decidable (CMx i j) := inferInstanceAs (Decidable (_ ≤ _))
abbrev gMulX := gI CMx fun i j => .int (i * j)
theorem me_mulX (ha : ME X E a fa) (hb : ME X E b fb) : ME X E (.BinOp a .Mult b pos) (mBin gMulX fa fb) := me_bin (op_mulX (X := X)) (rf_I (C := CMx) fun _ _ _ _ => .int _) ha hb
end
end M
namespace M
open PySem PySem.Spec PyProof.Rows L2
theorem room100 {A : Around} (r : Room 32 A) : A.depth + 100 < recursionLimit := by have := r.dp; omega
end M

/-! more rules: isinstance with two types, list.pop(i), list.index, min, any, x[i] += e, tuple(range), starred displays, d.setdefault, continue in a walk. -/
namespace M
open PySem PySem.Spec PyProof.Rows L2
section
variable {X : Cx} {E : XK} {K : PySem.W.Frag} {a b c e o i : Expr} {es : List Expr} {fa fb fc fo fi : FE} {fs : FA} {pos p apos cpos : Pos}
/-! isinstance(x, (S, T)) -/
def gIsi2 (S T : String) (st : Sto) (x : D) : MM D := match tyOf st x with
  | some n => match kitB n S, kitB n T with
    | some u, some v => ret (.bl (u || v)) st
    | _, _ => none
  | none => none
theorem me_isi2 {S T : String} {x y : Str} {k : Nat} {p1 p2 p3 : Pos} (hm : X.mg "isinstance" = none) (hmS : X.mg x = none) (hmT : X.mg y = none) (ha : ME X E e fa) (hvS : bootBuiltins x = some (.type S) := by decide +kernel) (hvT : bootBuiltins y = some (.type T) := by decide +kernel)
    (hg : Gl X "isinstance" := by rfl) (hgS : Gl X x := by rfl) (hgT : Gl X y := by rfl) (hnS : x ≠ "__name__" := by decide) (hdS : (x == ("__debug__" : Str)) = false := by decide) (hnT : y ≠ "__name__" := by decide) (hdT : (y == ("__debug__" : Str)) = false := by decide)
    (he0 : starEach [.Name x p1, .Name y p2] X.env = (false, eval (.Name x p1) X.env) :: starEach [.Name y p2] X.env := by rfl) (he1 : starEach [.Name y p2] X.env = (false, eval (.Name y p2) X.env) :: starEach [] X.env := by rfl)
    (he : starEach [e, .Tuple [.Name x p1, .Name y p2] k p3] X.env = (false, eval e X.env) :: starEach [.Tuple [.Name x p1, .Name y p2] k p3] X.env := by rfl) (he2 : starEach [.Tuple [.Name x p1, .Name y p2] k p3] X.env = (false, eval (.Tuple [.Name x p1, .Name y p2] k p3) X.env) :: starEach [] X.env := by rfl)
    (hpl : (backTo pos (starEach [.Tuple [.Name x p1, .Name y p2] k p3] X.env)).any (·.1) = false := by rfl) :
    ME X E (.Call (.Name "isinstance" p) [e, .Tuple [.Name x p1, .Name y p2] k p3] [] pos) (mUn (gIsi2 S T) fa) := by
  obtain ⟨t, pp, q⟩ := ha.ex
  refine ⟨_, pe_callB call_isiT hg hm (by decide +kernel) (pa_cons pp (pa_cons (pe_tup (pa_cons (pe_bltn hgS hmS hvS (v := .ty S) rfl hnS hdS) (pa_cons (pe_bltn hgT hmT hvT (v := .ty T) rfl hnT hdT) pa_nil he1) he0)) pa_nil he2) he) (by decide) (by decide) he hpl, fun sl σ w Q o s h => ?_⟩
  refine q sl σ w _ o s (post_bnd h fun v dv w1 o1 s1 r hp => ?_)
  refine ⟨(show 2 ≤ sizeLine from by rw [sizeLine_eq]; decide), fun pz hz => ?_⟩
  unfold gIsi2 at hp
  cases h1 : tyOf w1.st dv with
  | none => simp only [h1] at hp; exact hp.elim
  | some n =>
    cases h2 : kitB n S with
    | none => simp only [h1, h2] at hp; exact hp.elim
    | some u =>
      cases h3 : kitB n T with
      | none => simp only [h1, h2, h3] at hp; exact hp.elim
      | some z =>
        simp only [h1, h2, h3] at hp
        have oo : Ok X.K (w1.side pz (.tup [.ty S, .ty T])) := ok_side o1 (o1.H_of_F hz) (not_own_new o1 hz) _
        have ss : Step w1 (w1.side pz (.tup [.ty S, .ty T])) := step_side (Step.refl _) hz _
        refine ⟨v, pz, [.ty S, .ty T], .type n, [.type S, .type T], u || z, rfl, upd_same, .cons (.ty S) (.cons (.ty T) .nil), tyOf_rep oo (r.mono ss.le ss.pre) h1, ?_, ?_⟩
        · refine kitAny_cons (kit_ty h2) (fun e => ?_) fun e => by rw [e]; rfl
          refine kitAny_cons (kit_ty h3) (fun e2 => by rw [e, e2]; exact kitAny_nil) fun e2 => by rw [e2, e]; rfl
        · exact hp (.bl (u || z)) (w1.side pz (.tup [.ty S, .ty T])) rfl oo ss (.bl _)
/-! list.pop(i) -/
def gPopAt (st : Sto) (x : D) (as : List D) : MM D := match x, as with
  | .ptr p, [.int i] => match cellL st p with
    | some ds => if 0 ≤ i ∧ i < ds.length ∧ i < 2 ^ 62 then match ds[i.toNat]? with
        | some y => putL p (ds.eraseIdx i.toNat) y st
        | none => none
      else none
    | none => none
  | _, _ => none
theorem Reps.erase {F : Hp} {α : List Addr} : ∀ {vs : List V} {ds : List D} (i : Nat), Reps K F α vs ds → Reps K F α (vs.eraseIdx i) (ds.eraseIdx i)
  | _, _, 0, .nil => .nil
  | _, _, _ + 1, .nil => .nil
  | _, _, 0, .cons _ r => r
  | _, _, i + 1, .cons h r => .cons h (Reps.erase i r)
theorem rf_popAt : RfM K E rPopAt gPopAt := fun x dx xs ds w Q o rx rs h => by
  unfold gPopAt at h
  split at h
  · rename_i p i
    cases q : cellL w.st p with
    | none => rw [q] at h; exact h.elim
    | some ds =>
      rw [q] at h
      obtain ⟨⟨h0, h1, h2⟩, h⟩ := post_ite h
      obtain ⟨a, ys, rfl, ea, es, hx, r⟩ := cell_lst o rx q
      obtain ⟨y', rfl, ry⟩ := rs.one_inv
      cases q2 : ds[i.toNat]? with
      | none => simp only [q2] at h; exact h.elim
      | some y =>
        simp only [q2] at h
        obtain ⟨v, e1, e2⟩ := r.get q2
        have p62 : (2 : Int) ^ 62 = 4611686018427387904 := by decide
        have p63 : (2 : Int) ^ 63 = 9223372036854775808 := by decide
        refine ⟨a, ys, i, i.toNat, v, rfl, by rw [ry.int_inv], hx, by omega, by omega, ?_, e1, post_putL o es ea h e2 (r.erase _)⟩
        have hn : ¬ i < 0 := by omega
        have hl : i < (ys.length : Int) := by rw [r.length]; exact h1
        simp only [seqIndex?, if_neg hn, h0, hl, decide_true, Bool.and_self, if_true]
  · exact h.elim
/-! list.index of flat values -/
def fidx (y : V) : List V → Nat → Option Nat
  | [], _ => none
  | d :: r, n => if eqV d y = true then some n else fidx y r (n + 1)
theorem fidx_is {y : V} : ∀ {vs : List V} {n k : Nat}, fidx y vs n = some k → n ≤ k ∧ (∃ z, vs[k - n]? = some z ∧ eqV z y = true) ∧ ∀ (m : Nat) (z : V), m < k - n → vs[m]? = some z → eqV z y = false
  | [], n, k, h => by cases h
  | d :: r, n, k, h => by
    unfold fidx at h
    by_cases e : eqV d y = true
    · rw [if_pos e] at h; cases h
      exact ⟨Nat.le_refl _, ⟨d, by simp, e⟩, fun m z hm => by omega⟩
    · rw [if_neg e] at h
      obtain ⟨h1, ⟨z, hz, he⟩, h2⟩ := fidx_is h
      refine ⟨by omega, ⟨z, ?_, he⟩, fun m z hm hz => ?_⟩
      · rw [show k - n = (k - (n + 1)) + 1 from by omega]; exact hz
      · cases m with
        | zero => simp at hz; subst hz; exact Bool.eq_false_iff.mpr e
        | succ m => exact h2 m z (by omega) (by simpa using hz)
def gIndex (st : Sto) (x : D) (as : List D) : MM D := match as with
  | [y] => match (lstOf st x).bind scDs, scD y with
    | some vs, some v => match fidx v vs 0 with
      | some k => ret (.int (k : Int)) st
      | none => none
    | _, _ => none
  | _ => none
theorem rf_index : RfM K E (rIndex K) gIndex := fun x dx xs ds w Q o rx rs h => by
  unfold gIndex at h
  split at h
  · rename_i y
    cases q : lstOf w.st dx with
    | none => simp only [q, Option.bind_none] at h; exact h.elim
    | some es =>
      simp only [q, Option.bind_some] at h
      cases q2 : scDs es with
      | none => simp only [q2] at h; exact h.elim
      | some vs =>
        cases q3 : scD y with
        | none => simp only [q2, q3] at h; exact h.elim
        | some v =>
          simp only [q2, q3] at h
          cases q4 : fidx v vs 0 with
          | none => simp only [q4] at h; exact h.elim
          | some k =>
            simp only [q4] at h
            obtain ⟨a, ys, rfl, hs, r⟩ := lstOf_rep o rx q
            obtain ⟨y', rfl, ry⟩ := rs.one_inv
            obtain ⟨e1, e2⟩ := scDs_rep r q2
            subst e1
            have ey := scD_rep ry q3
            subst ey
            obtain ⟨_, ⟨z, hz, he⟩, hno⟩ := fidx_is q4
            refine ⟨a, ys, y', k, z, rfl, rfl, hs, ?_, e2, by simpa using hz, he, fun m z' hm hz' => hno m z' (by simpa using hm) hz', post_ret o (.int _) h⟩
            cases y <;> cases q3 <;> rfl
  · exact h.elim
/-! min of a list of whole numbers; any -/
def minOf : List Int → Int
  | [] => 0
  | [i] => i
  | i :: r => if minOf r < i then minOf r else i
theorem minOf_is {is : List Int} : is ≠ [] → minOf is ∈ is ∧ ∀ y ∈ is, minOf is ≤ y := by
  induction is with
  | nil => intro h; exact absurd rfl h
  | cons i r ih =>
    intro _
    cases r with
    | nil => exact ⟨List.mem_cons_self, fun y m => by rw [List.mem_singleton] at m; subst m; exact Int.le_refl _⟩
    | cons j s =>
      obtain ⟨h1, h2⟩ := ih (by simp)
      show (if minOf (j :: s) < i then minOf (j :: s) else i) ∈ _ ∧ ∀ y ∈ _, (if minOf (j :: s) < i then minOf (j :: s) else i) ≤ y
      by_cases c : minOf (j :: s) < i
      · rw [if_pos c]
        refine ⟨List.mem_cons_of_mem _ h1, fun y m => ?_⟩
        rcases List.mem_cons.mp m with rfl | m
        · omega
        · exact h2 y m
      · rw [if_neg c]
        refine ⟨List.mem_cons_self, fun y m => ?_⟩
        rcases List.mem_cons.mp m with rfl | m
        · omega
        · have := h2 y m; omega
def cMinL (st : Sto) (ds : List D) : MM D := match ds with
  | [x] => match (lstOf st x).bind intsOf with
    | some is => if is = [] then none else ret (.int (minOf is)) st
    | none => none
  | _ => none
theorem rf_minL : RfC K E (rMin K) cMinL := fun xs ds w Q o r hp => by
  unfold cMinL at hp
  split at hp
  · rename_i d
    obtain ⟨x, rfl, rx⟩ := r.one_inv
    cases h1 : lstOf w.st d with
    | none => simp only [h1, Option.bind_none] at hp; exact hp.elim
    | some es =>
      simp only [h1, Option.bind_some] at hp
      cases h2 : intsOf es with
      | none => simp only [h2] at hp; exact hp.elim
      | some is =>
        simp only [h2] at hp
        obtain ⟨a, vs, rfl, hs, rs⟩ := lstOf_rep o rx h1
        by_cases z : is = []
        · rw [if_pos z] at hp; exact hp.elim
        · rw [if_neg z] at hp
          rw [intsOf_rep rs h2] at hs
          refine ⟨a, is, rfl, hs, List.length_pos_iff.mpr z, fun m m1 m2 => ?_⟩
          obtain ⟨g1, g2⟩ := minOf_is z
          have e : m = minOf is := Int.le_antisymm (m2 _ g1) (g2 _ m1)
          rw [e]; exact post_ret o (.int _) hp
  · exact hp.elim
end
/-! continue in a walk -/
def EnsC (m : MM Fl) (N : Sl → Sto → Prop) (R : D → Sto → Prop) : Prop := Ens m fun f st => match f with
  | .nx sl => N sl st
  | .ct sl => N sl st
  | .rt d => R d st
  | .bk _ => False
theorem ens_forC {tg : FG} {body : FS} {N : Sl → Sto → Prop} {R : D → Sto → Prop} (I : Nat → Sl → Sto → Prop) : ∀ (ds : List D) (i : Nat) {sl : Sl} {st : Sto}, I i sl st →
    (∀ (j : Nat) d sl st, ds[j]? = some d → I (i + j) sl st → Ens (tg d sl st) fun sl st => EnsC (body sl st) (I (i + j + 1)) R) → (∀ sl st, I (i + ds.length) sl st → N sl st) → EnsS (forL tg body ds sl st) N R
  | [], i, sl, st, h0, hs, hd => ens_ret (hd sl st h0)
  | d :: ds, i, sl, st, h0, hs, hd => by
    refine ens_bnd ((hs 0 d sl st rfl h0).imp fun sl1 st1 h1 => ens_bnd (h1.imp fun f st2 h2 => ?_))
    have rest : ∀ sl2, I (i + 1) sl2 st2 → EnsS (forL tg body ds sl2 st2) N R := fun sl2 h => ens_forC I ds (i + 1) h (fun j d' sl st e hI => by
      have e1 : i + 1 + j = i + (j + 1) := by omega
      rw [e1] at hI ⊢
      exact hs (j + 1) d' sl st e hI) (fun sl st hI => hd sl st (by
      have e1 : i + (d :: ds).length = i + 1 + ds.length := by rw [List.length_cons]; omega
      rw [e1]; exact hI))
    cases f with
    | nx sl2 => exact rest sl2 h2
    | ct sl2 => exact rest sl2 h2
    | bk sl2 => exact h2.elim
    | rt d2 => exact ens_ret h2
theorem ensC_of {m : MM Fl} {N : Sl → Sto → Prop} {R : D → Sto → Prop} (h : EnsS m N R) : EnsC m N R := by
  obtain ⟨f, s, e, q⟩ := h
  refine ⟨f, s, e, ?_⟩
  cases f with
  | nx sl => exact q
  | rt d => exact q
  | bk sl => exact q
  | ct sl => exact q.elim
theorem ensC_cnt {N : Sl → Sto → Prop} {R : D → Sto → Prop} {sl : Sl} {st : Sto} (h : N sl st) : EnsC (sCnt sl st) N R := ens_ret h
theorem ensC_seq {N : Sl → Sto → Prop} {R : D → Sto → Prop} {sl : Sl} {st : Sto} {g1 g2 : FS} (h : EnsS (g1 sl st) (fun sl st => EnsC (g2 sl st) N R) R) : EnsC (sSeq g1 g2 sl st) N R := by
  refine ens_bnd (h.imp fun f st q => ?_)
  cases f with
  | nx _ => exact q
  | rt d => exact ens_ret q
  | bk _ => exact q.elim
  | ct _ => exact q.elim
theorem ensC_if {N : Sl → Sto → Prop} {R : D → Sto → Prop} {sl : Sl} {st : Sto} {c : FT} {g1 g2 : FS} (h : Ens (c sl st) fun b st => (b = true → EnsC (g1 sl st) N R) ∧ (b = false → EnsC (g2 sl st) N R)) : EnsC (sIf c g1 g2 sl st) N R := ens_bnd (h.imp fun _ _ q => ens_cond q.1 q.2)
/-! d.setdefault(k, v), keys whole numbers or texts -/
def setD (st : Sto) (x y z : D) : MM D := match x with
  | .ptr i => match cellK st i, keyOf y with
    | some ds, some k => if ds.length < sizeLine then match lookD ds k with
        | some d => ret d st
        | none => ret z (st.set i (some (.dct (putD ds k z))))
      else none
    | _, _ => none
  | _ => none
def mSetDf (fo fi fv : FE) : FE := fun sl st => bnd (fo sl st) fun x st => if isDC st x = true then bnd (fi sl st) fun y st => bnd (fv sl st) fun z st => setD st x y z else none
section
variable {X : Cx} {E : XK} {K : PySem.W.Frag} {b o i : Expr} {fb fo fi : FE} {apos cpos : Pos}
theorem me_setd (ho : ME X E o fo) (hi : ME X E i fi) (hx : ME X E b fb) (m : M2 X o "setdefault" apos i b cpos) : ME X E (.Call (.Attribute o "setdefault" apos) [i, b] [] cpos) (mSetDf fo fi fb) := by
  obtain ⟨t, p, q⟩ := ho.ex
  obtain ⟨t', p', q'⟩ := hi.ex
  obtain ⟨t2, p2, q2⟩ := hx.ex
  refine ⟨_, pe_dsetd p p' p2 m, fun sl σ w Q o s h => ?_⟩
  refine q sl σ w _ o s (post_bnd h fun x dx w1 o1 s1 rx h1 => ?_)
  obtain ⟨hd, h1⟩ := post_ite h1
  obtain ⟨a0, rfl, isd⟩ := isDC_rep o1 rx hd
  refine ⟨a0, rfl, isd, ?_⟩
  refine q' sl σ w1 _ o1 (s.step s1) (post_bnd h1 fun y dy w2 o2 s2 ry h2 => ?_)
  refine q2 sl σ w2 _ o2 ((s.step s1).step s2) (post_bnd h2 fun z dz w3 o3 s3 rz h3 => ?_)
  have rx := (rx.mono s2.le s2.pre).mono s3.le s3.pre
  have ry := ry.mono s3.le s3.pre
  unfold setD at h3
  cases dx with
  | ptr j =>
    cases g : cellK w3.st j with
    | none => simp only [g] at h3; exact h3.elim
    | some ds =>
      cases g2 : keyOf dy with
      | none => simp only [g, g2] at h3; exact h3.elim
      | some k =>
        simp only [g, g2] at h3
        obtain ⟨hl, h3⟩ := post_ite h3
        obtain ⟨a, ea, ha, _, ca⟩ := cell_at o3 rx (cellK_some g)
        cases ea
        have l : Live w3.st j := ⟨_, cellK_some g⟩
        cases ca with
        | @dct kvs _ hx ek rs =>
          refine ⟨kvs, k, hx, keyOf_rep ry g2, by rw [len_key ek]; exact hl, fun v hv => ?_, fun hn => ?_⟩
          · cases g3 : lookD ds k with
            | none => rw [look_none ek g3] at hv; cases hv
            | some d =>
              simp only [g3] at h3
              obtain ⟨v', e', rv⟩ := look_some ek rs g3
              rw [hv] at e'; cases e'
              exact post_ret o3 rv h3
          · cases g3 : lookD ds k with
            | some d =>
              obtain ⟨v', e', _⟩ := look_some ek rs g3
              rw [hn] at e'; cases e'
            | none =>
              simp only [g3] at h3
              obtain ⟨p1, p2⟩ := put_rep (k := k) rz ek rs
              exact h3 z (w3.put j a0 (.dK (putK kvs k z)) (.dct (putD ds k dz))) rfl (ok_put o3 l ha (.dct upd_same p1 p2)) (step_put o3 l ha _ _) rz
  | _ => exact h3.elim
end
end M

/-! a list of tuples, each with a list of its own at one place: all let be. -/
namespace M
open PySem L2
section
variable {K : PySem.W.Frag}
def Ws.view (w : Ws) (i : Nat) (c : Cell) : Ws := ⟨w.st.set i (some c), w.al, w.F, w.H⟩
theorem live_view {st : Sto} {i j : Nat} {c : Cell} (l : Live st i) : Live (st.set i (some c)) j ↔ Live st j := by
  obtain ⟨d, e⟩ := l
  have hi := (List.getElem?_eq_some_iff.mp e).1
  by_cases z : i = j
  · subst z
    exact ⟨fun _ => ⟨d, e⟩, fun _ => ⟨c, by rw [List.getElem?_set_self hi]⟩⟩
  · unfold Live
    rw [List.getElem?_set_ne z]
theorem step_view {w : Ws} {i : Nat} {c : Cell} (l : Live w.st i) : Step w (w.view i c) :=
  ⟨Pre.refl _, Le.refl _, fun _ _ h _ => h, fun _ _ _ _ => rfl, fun _ h => h, fun _ ⟨j, lj, e⟩ => .inl ⟨j, (live_view l).mp lj, e⟩⟩
theorem ok_view {w : Ws} {i : Nat} {c : Cell} {a : Addr} (o : Ok K w) (l : Live w.st i) (ea : w.al[i]? = some a) (ca : CellAt K w.F w.al w.H a c) : Ok K (w.view i c) := by
  refine ⟨?_, o.sub, fun j d h => ?_, fun j k b lj lk ej ek => o.inj j k b ((live_view l).mp lj) ((live_view l).mp lk) ej ek⟩
  · show w.al.length = (w.st.set i (some c)).length
    rw [List.length_set]; exact o.len
  · have h' : (w.st.set i (some c))[j]? = some (some d) := h
    by_cases z : i = j
    · subst z
      obtain ⟨d0, e0⟩ := l
      have hi := (List.getElem?_eq_some_iff.mp e0).1
      rw [List.getElem?_set_self hi] at h'
      cases h'
      obtain ⟨b, eb, f, _⟩ := o.own i d0 e0
      rw [ea] at eb; cases eb
      exact ⟨a, ea, f, ca⟩
    · rw [List.getElem?_set_ne z] at h'
      exact o.own j d h'
def thaw1 (st : Sto) (j k m : Nat) : Option Sto := match cellL st j with
  | some ds => match ds[k]? with
    | some (.tup es) => match es[m]? with
      | some (.ptr q) => if q = j then none else match cellL st q with
        | some rs => some ((st.set q none).set j (some (.lst (ds.set k (.tup (es.set m (.lst rs)))))))
        | none => none
      | _ => none
    | _ => none
  | none => none
theorem thaw1_rep {w : Ws} (o : Ok K w) {j k m : Nat} {st' : Sto} (h : thaw1 w.st j k m = some st') : ∃ w', w'.st = st' ∧ w'.H = w.H ∧ Ok K w' ∧ Step w w' := by
  unfold thaw1 at h
  cases h1 : cellL w.st j with
  | none => rw [h1] at h; cases h
  | some ds =>
    rw [h1] at h
    dsimp only at h
    cases h2 : ds[k]? with
    | none => rw [h2] at h; cases h
    | some d =>
      rw [h2] at h
      cases d with
      | tup es =>
        dsimp only at h
        cases h3 : es[m]? with
        | none => rw [h3] at h; cases h
        | some e =>
          rw [h3] at h
          cases e with
          | ptr q =>
            dsimp only at h
            by_cases hq : q = j
            · rw [if_pos hq] at h; cases h
            · rw [if_neg hq] at h
              cases h4 : cellL w.st q with
              | none => rw [h4] at h; cases h
              | some rs =>
                rw [h4] at h
                injection h with h
                have lj : Live w.st j := ⟨_, cellL_some h1⟩
                have lq : Live w.st q := ⟨_, cellL_some h4⟩
                obtain ⟨a, ea, fa, ca⟩ := o.own j _ (cellL_some h1)
                obtain ⟨b, eb, fb, cb⟩ := o.own q _ (cellL_some h4)
                cases ca with
                | @lst xs _ hx rx =>
                  cases cb with
                  | @lst ys _ hy ry =>
                    have o1 := ok_frz (u := .lst ys) o lq eb hy
                    have s1 := step_frz (u := .lst ys) o lq eb
                    have lj1 : Live (w.st.set q none) j := ⟨_, by rw [List.getElem?_set_ne hq]; exact cellL_some h1⟩
                    have rx1 := rx.mono s1.le s1.pre
                    obtain ⟨v, ev, rv⟩ := rx1.get h2
                    obtain ⟨tp, zs, rfl, ft, rz⟩ := rv.tup_inv
                    obtain ⟨u, eu, ru⟩ := rz.get h3
                    obtain ⟨b', rfl, eb'⟩ := ru.ptr_inv
                    have hb : b' = b := Option.some.inj (eb'.symm.trans eb)
                    subst hb
                    have rb : Rep K (w.frz q b' (.lst ys)).F (w.frz q b' (.lst ys)).al (.ref b') (.lst rs) := .lst (show upd w.F b' _ b' = _ from upd_same) (ry.mono s1.le s1.pre)
                    have rt : Rep K (w.frz q b' (.lst ys)).F (w.frz q b' (.lst ys)).al (.ref tp) (.tup (es.set m (.lst rs))) := by
                      refine .tup ft ?_
                      have := Reps.set rb m rz
                      have hu : zs.set m (.ref b') = zs := by
                        refine List.ext_getElem? fun n => ?_
                        by_cases z : m = n
                        · subst z
                          rw [List.getElem?_set_self (List.getElem?_eq_some_iff.mp eu).1]; exact eu.symm
                        · rw [List.getElem?_set_ne z]
                      rw [hu] at this
                      exact this
                    have rx2 : Reps K (w.frz q b' (.lst ys)).F (w.frz q b' (.lst ys)).al xs (ds.set k (.tup (es.set m (.lst rs)))) := by
                      have := Reps.set rt k rx1
                      have hu : xs.set k (.ref tp) = xs := by
                        refine List.ext_getElem? fun n => ?_
                        by_cases z : k = n
                        · subst z
                          rw [List.getElem?_set_self (List.getElem?_eq_some_iff.mp ev).1]; exact ev.symm
                        · rw [List.getElem?_set_ne z]
                      rw [hu] at this
                      exact this
                    exact ⟨(w.frz q b' (.lst ys)).view j (.lst (ds.set k (.tup (es.set m (.lst rs))))), h, rfl, ok_view o1 lj1 ea (.lst hx rx2), s1.trans (step_view lj1)⟩
          | _ => cases h
      | _ => cases h
def thawN (st : Sto) (j m : Nat) : Nat → Option Sto
  | 0 => some st
  | k + 1 => match thaw1 st j k m with
    | some st => thawN st j m k
    | none => none
theorem thawN_rep {j m : Nat} : ∀ (k : Nat) {w : Ws} {st' : Sto}, Ok K w → thawN w.st j m k = some st' → ∃ w', w'.st = st' ∧ w'.H = w.H ∧ Ok K w' ∧ Step w w'
  | 0, w, st', o, h => by cases h; exact ⟨w, rfl, rfl, o, Step.refl _⟩
  | k + 1, w, st', o, h => by
    have h : (match thaw1 w.st j k m with
      | some st => thawN st j m k
      | none => none) = some st' := h
    cases h1 : thaw1 w.st j k m with
    | none => rw [h1] at h; cases h
    | some s1 =>
      rw [h1] at h
      obtain ⟨w1, e1, eH, o1, t1⟩ := thaw1_rep o h1
      subst e1
      obtain ⟨w2, e2, eH2, o2, t2⟩ := thawN_rep k o1 h
      exact ⟨w2, e2, eH2.trans eH, o2, t1.trans t2⟩
/-- the lists at place m of the tuples in the list that name i holds -/
def sThaw (i m : Nat) (g : FS) : FS := fun sl st => match gv sl i with
  | some (.ptr j) => match cellL st j with
    | some ds => match thawN st j m ds.length with
      | some st => g sl st
      | none => none
    | none => none
  | _ => none
end
section
variable {X : Cx} {E : XK} {sts : List Stmt} {g : FS}
theorem mss_thaw (i m : Nat) (h : MSs X E sts g) : MSs X E sts (sThaw i m g) := by
  obtain ⟨t, p, q⟩ := h.ex
  refine ⟨t, p, fun sl σ w D o s hp => ?_⟩
  have hp : PostS X.K E w (match gv sl i with
    | some (.ptr j) => match cellL w.st j with
      | some ds => match thawN w.st j m ds.length with
        | some st => g sl st
        | none => none
      | none => none
    | _ => none) D := hp
  cases e : gv sl i with
  | none => rw [e] at hp; exact hp.elim
  | some d =>
    rw [e] at hp
    cases d with
    | ptr j =>
      dsimp only at hp
      cases e1 : cellL w.st j with
      | none => rw [e1] at hp; exact hp.elim
      | some ds =>
        rw [e1] at hp
        dsimp only at hp
        cases e2 : thawN w.st j m ds.length with
        | none => rw [e2] at hp; exact hp.elim
        | some st =>
          rw [e2] at hp
          obtain ⟨w', rfl, eH, o', s'⟩ := thawN_rep _ o e2
          have := q sl σ w' D o' (s.step s') (PostS.step s' hp)
          rw [eH] at this
          exact this
    | _ => exact hp.elim
end
end M

/-! list(range(..)), tuple(range(..)). -/
namespace M
open PySem L2
section
variable {X : Cx} {E : XK} {fs : FA} {a b : Expr} {pos : Pos}
theorem reps_rng {F : Hp} {α : List Addr} {K : PySem.W.Frag} (i j : Int) : Reps K F α (rgV i j) (rngD i (j - i).toNat) := by
  unfold rgV rngD
  generalize (j - i).toNat = n
  have go : ∀ l : List Nat, Reps K F α (l.map fun i' => V.int (i + (i' : Nat))) (l.map fun (i' : Nat) => D.int (i + i')) := by
    intro l
    induction l with
    | nil => exact .nil
    | cons x r ih => exact .cons (.int _) ih
  exact go _
def RgC (i j : Int) : Prop := -(2 ^ 62) ≤ i ∧ i < 2 ^ 62 ∧ -(2 ^ 62) ≤ j ∧ j < 2 ^ 62 ∧ (j - i).toNat ≤ 1000000
instance (i j : Int) : Decidable (RgC i j) := by unfold RgC; exact inferInstance
theorem RgC.ok {i j : Int} (h : RgC i j) : RgOk i j := by
  obtain ⟨a, b, c, d, e⟩ := h
  exact ⟨a, b, c, d, by omega⟩
/-- bounds of a range -/
def bnds1 (fa : FE) (k : Int → Int → Sto → MM D) : FE := fun sl st => bnd (fa sl st) fun x st => match x with
  | .int j => if RgC 0 j then k 0 j st else none
  | _ => none
def bnds2 (fa fb : FE) (k : Int → Int → Sto → MM D) : FE := fun sl st => bnd (fa sl st) fun x st => bnd (fb sl st) fun y st => match x, y with
  | .int i, .int j => if RgC i j then k i j st else none
  | _, _ => none
def kLst (c : Bool) (i j : Int) (st : Sto) : MM D := mkL c (rngD i (j - i).toNat) st
def kTup (i j : Int) (st : Sto) : MM D := mkT (rngD i (j - i).toNat) st
variable {fa fb : FE} {p p2 pos2 : Pos}
theorem ref_rg1 {ta : TE} {T : St → Hp → (Int → Int → Hp → Prop) → Prop} {k : Int → Int → Sto → MM D} {G : Int → Int → Hp → VK → Prop} (q : RefE X.K E ta fa) (hk : ∀ {w : Ws} {i j : Int} {Q : VK}, Ok X.K w → RgC i j → Post X.K E (rD X.K) w (k i j w.st) Q → G i j w.H Q) : RefE X.K E (fun σ H Q => tRg1 ta σ H fun i j H1 => G i j H1 Q) (bnds1 fa k) := fun sl σ w Q o s h => by
  refine q sl σ w _ o s (post_bnd h fun v d w1 o1 s1 r hp => ?_)
  split at hp
  · rename_i n
    obtain ⟨hc, hp⟩ := post_ite (p := RgC 0 n) hp
    exact ⟨n, r.int_inv, hk o1 hc hp⟩
  · exact hp.elim
theorem ref_rg2 {ta tb : TE} {k : Int → Int → Sto → MM D} {G : Int → Int → Hp → VK → Prop} (q : RefE X.K E ta fa) (q2 : RefE X.K E tb fb) (hk : ∀ {w : Ws} {i j : Int} {Q : VK}, Ok X.K w → RgC i j → Post X.K E (rD X.K) w (k i j w.st) Q → G i j w.H Q) : RefE X.K E (fun σ H Q => tRg2 ta tb σ H fun i j H1 => G i j H1 Q) (bnds2 fa fb k) := fun sl σ w Q o s h => by
  refine q sl σ w _ o s (post_bnd h fun v d w1 o1 s1 r hp => ?_)
  refine q2 sl σ w1 _ o1 (s.step s1) (post_bnd hp fun v2 d2 w2 o2 s2 r2 hp2 => ?_)
  split at hp2
  · rename_i i j
    obtain ⟨hc, hp⟩ := post_ite (p := RgC i j) hp2
    exact ⟨i, j, r.int_inv, r2.int_inv, hk o2 hc hp⟩
  · exact hp2.elim
theorem k_lst {c : Bool} {w : Ws} {i j : Int} {Q : VK} (o : Ok X.K w) (hc : RgC i j) (h : Post X.K E (rD X.K) w (kLst c i j w.st) Q) : RgOk i j ∧ ∀ q, w.H q = none → Q (.ref q) (upd w.H q (.lst (rgV i j))) := ⟨hc.ok, fun p np => post_mkL o h np (reps_rng i j)⟩
theorem k_tup {w : Ws} {i j : Int} {Q : VK} (o : Ok X.K w) (hc : RgC i j) (h : Post X.K E (rD X.K) w (kTup i j w.st) Q) : RgOk i j ∧ ∀ q, w.H q = none → Q (.ref q) (upd w.H q (.tup (rgV i j))) := ⟨hc.ok, fun p np => post_mkT o h np (reps_rng i j)⟩
theorem me_lstRg1 (c : Bool) (hm1 : X.mg "range" = none) (hm2 : X.mg "list" = none) (ha : ME X E a fa) (hc : X.calm = true := by rfl) (hg1 : Gl X "range" := by rfl) (hg2 : Gl X "list" := by rfl) (hs : starEach [a] X.env = [(false, eval a X.env)] := by rfl)
    (hs2 : starEach [.Call (.Name "range" p2) [a] [] pos2] X.env = [(false, eval (.Call (.Name "range" p2) [a] [] pos2) X.env)] := by rfl) : ME X E (.Call (.Name "list" p) [.Call (.Name "range" p2) [a] [] pos2] [] pos) (bnds1 fa (kLst c)) := by
  obtain ⟨t, pp, q⟩ := ha.ex
  exact ⟨_, pe_listRg hc hg2 hm2 (prg_1 hg1 hm1 pp hs) hs2, ref_rg1 (T := tRg1 t) q fun o hc h => k_lst o hc h⟩
theorem me_tupRg1 (hm1 : X.mg "range" = none) (hm2 : X.mg "tuple" = none) (ha : ME X E a fa) (hc : X.calm = true := by rfl) (hg1 : Gl X "range" := by rfl) (hg2 : Gl X "tuple" := by rfl) (hs : starEach [a] X.env = [(false, eval a X.env)] := by rfl)
    (hs2 : starEach [.Call (.Name "range" p2) [a] [] pos2] X.env = [(false, eval (.Call (.Name "range" p2) [a] [] pos2) X.env)] := by rfl) : ME X E (.Call (.Name "tuple" p) [.Call (.Name "range" p2) [a] [] pos2] [] pos) (bnds1 fa kTup) := by
  obtain ⟨t, pp, q⟩ := ha.ex
  exact ⟨_, pe_tupRg hc hg2 hm2 (prg_1 hg1 hm1 pp hs) hs2, ref_rg1 (T := tRg1 t) q fun o hc h => k_tup o hc h⟩
theorem me_lstRg2 (c : Bool) (hm1 : X.mg "range" = none) (hm2 : X.mg "list" = none) (ha : ME X E a fa) (hb : ME X E b fb) (hc : X.calm = true := by rfl) (hg1 : Gl X "range" := by rfl) (hg2 : Gl X "list" := by rfl) (hs : starEach [a, b] X.env = (false, eval a X.env) :: starEach [b] X.env := by rfl) (hs3 : starEach [b] X.env = (false, eval b X.env) :: starEach [] X.env := by rfl) (hp : (backTo pos2 (starEach [b] X.env)).any (·.1) = false := by rfl)
    (hs2 : starEach [.Call (.Name "range" p2) [a, b] [] pos2] X.env = [(false, eval (.Call (.Name "range" p2) [a, b] [] pos2) X.env)] := by rfl) : ME X E (.Call (.Name "list" p) [.Call (.Name "range" p2) [a, b] [] pos2] [] pos) (bnds2 fa fb (kLst c)) := by
  obtain ⟨t, pp, q⟩ := ha.ex
  obtain ⟨t', pp', q'⟩ := hb.ex
  exact ⟨_, pe_listRg hc hg2 hm2 (prg_2 hg1 hm1 pp pp' hs hs3 hp) hs2, ref_rg2 q q' fun o hc h => k_lst o hc h⟩
theorem me_tupRg2 (hm1 : X.mg "range" = none) (hm2 : X.mg "tuple" = none) (ha : ME X E a fa) (hb : ME X E b fb) (hc : X.calm = true := by rfl) (hg1 : Gl X "range" := by rfl) (hg2 : Gl X "tuple" := by rfl) (hs : starEach [a, b] X.env = (false, eval a X.env) :: starEach [b] X.env := by rfl) (hs3 : starEach [b] X.env = (false, eval b X.env) :: starEach [] X.env := by rfl) (hp : (backTo pos2 (starEach [b] X.env)).any (·.1) = false := by rfl)
    (hs2 : starEach [.Call (.Name "range" p2) [a, b] [] pos2] X.env = [(false, eval (.Call (.Name "range" p2) [a, b] [] pos2) X.env)] := by rfl) : ME X E (.Call (.Name "tuple" p) [.Call (.Name "range" p2) [a, b] [] pos2] [] pos) (bnds2 fa fb kTup) := by
  obtain ⟨t, pp, q⟩ := ha.ex
  obtain ⟨t', pp', q'⟩ := hb.ex
  exact ⟨_, pe_tupRg hc hg2 hm2 (prg_2 hg1 hm1 pp pp' hs hs3 hp) hs2, ref_rg2 q q' fun o hc h => k_tup o hc h⟩
/-! runs -/
variable {sl : Sl} {st : Sto} {Q : D → Sto → Prop}
theorem ens_lstRg1 {c : Bool} (h : Ens (fa sl st) fun x st => ∃ j, x = .int j ∧ RgC 0 j ∧ Ens (mkL c (rngD 0 (j - 0).toNat) st) Q) : Ens (bnds1 fa (kLst c) sl st) Q := ens_bnd (h.imp fun x s ⟨j, e, hc, q⟩ => by subst e; exact ens_ite hc q)
theorem ens_tupRg1 (h : Ens (fa sl st) fun x st => ∃ j, x = .int j ∧ RgC 0 j ∧ Q (.tup (rngD 0 (j - 0).toNat)) st) : Ens (bnds1 fa kTup sl st) Q := ens_bnd (h.imp fun x s ⟨j, e, hc, q⟩ => by subst e; exact ens_ite hc (ens_ret q))
theorem ens_lstRg2 {c : Bool} (h : Ens (fa sl st) fun x st => Ens (fb sl st) fun y st => ∃ i j, x = .int i ∧ y = .int j ∧ RgC i j ∧ Ens (mkL c (rngD i (j - i).toNat) st) Q) : Ens (bnds2 fa fb (kLst c) sl st) Q := ens_bnd (h.imp fun x s q0 => ens_bnd (q0.imp fun y s ⟨i, j, e, e2, hc, q⟩ => by rw [e, e2]; exact ens_ite hc q))
theorem ens_tupRg2 (h : Ens (fa sl st) fun x st => Ens (fb sl st) fun y st => ∃ i j, x = .int i ∧ y = .int j ∧ RgC i j ∧ Q (.tup (rngD i (j - i).toNat)) st) : Ens (bnds2 fa fb kTup sl st) Q := ens_bnd (h.imp fun x s q0 => ens_bnd (q0.imp fun y s ⟨i, j, e, e2, hc, q⟩ => by rw [e, e2]; exact ens_ite hc (ens_ret q)))
end
end M

/-! tuples of the module whose items are tuples too. -/
namespace M
open PySem PySem.Spec PyProof.Rows L2
section
variable {X : Cx} {E : XK} {K : PySem.W.Frag} {es : List Expr} {pos : Pos}
/-- a name of the module, what it stands for known -/
def GlobD (X : Cx) (x : Str) (d : D) : Prop := ∃ v u, X.mg x = some u ∧ RelV v u ∧ ∀ F α, Rep X.K F α v d
theorem me_gN {x : Str} {d : D} (h : GlobD X x d) (hg : Gl X x := by rfl) (hd : (x == ("__debug__" : Str)) = false := by decide) : ME X E (.Name x pos) (mC d) := by
  obtain ⟨v, u, e, r, h⟩ := h
  exact ⟨_, pe_glob hg e r hd, ref_c h⟩
/-- a, b, .. = a tuple of the module -/
def gTpG (n : Nat) (r : FGs) : FG := fun d sl st => match d with
  | .gtp ds => if ds.length = n then r ds sl st else none
  | _ => none
theorem mg_tupG {k : Nat} {gr : FGs} {n : Nat} (hc : X.calm = true) (h : MGs X E es gr) (hn : (assignEach es X.env).length = n := by rfl) (hst : (assignEach es X.env).findIdx? (·.1) = none := by rfl) : MG X E (.Tuple es k pos) (gTpG n gr) := by
  obtain ⟨t, q, r⟩ := h.ex
  refine ⟨_, pg_tup hc q hn hst, fun v d sl σ w Q o rv s hq => ?_⟩
  cases d with
  | gtp ds =>
    obtain ⟨hl, hq⟩ := post_ite (p := ds.length = n) hq
    obtain ⟨a, xs, rfl, f, rs⟩ := rv.gtp_inv
    exact ⟨a, xs, rfl, f _, by rw [rs.length]; exact hl, r xs ds sl σ w Q o rs s hq⟩
  | _ => exact hq.elim
end
end M

/-! {k: v for x in xs if c}, keys whole numbers or texts; the result a cell. -/
namespace M
open PySem L2
def dcL (gt : FG) (tt : FT) (fk fe : FE) (sl : Sl) : List D → List (Key × D) → Sto → MM (List (Key × D))
  | [], kvs, st => ret kvs st
  | d :: ds, kvs, st => bnd (gt d sl st) fun sl2 st => bnd (tt sl2 st) fun b st => cond b (bnd (fk sl2 st) fun z st => bnd (fe sl2 st) fun y st => match keyOf z with
    | some k => if kvs.length < sizeLine then dcL gt tt fk fe sl ds (putD kvs k y) st else none
    | none => none) (dcL gt tt fk fe sl ds kvs st)
def mDc (it : FA) (gt : FG) (tt : FT) (fk fe : FE) (vs : List Nat) : FE := fun sl st => bnd (it sl st) fun ds st => bnd (noX (dcL gt tt fk fe (wipeD sl vs) ds [] st)) fun kvs st => ret (.ptr st.length) (st ++ [some (.dct kvs)])
section
variable {X : Cx} {E : XK} {K : PySem.W.Frag}
theorem ref_dc {wi : TI} {g : TG} {tt : TT} {tk te : TE} {fi : FA} {gt : FG} {ft : FT} {fk fe : FE} {vs : List Nat} {E' : XK}
    (hi : ∀ sl σ w (R : It → Hp → Prop), Ok K w → Slots K w sl σ → Post K E (fun w J ds => SeqIt K w J ds) w (fi sl w.st) R → wi σ w.H R)
    (hg : ∀ v d sl σ w (Q : St → Hp → Prop), Ok K w → Rep K w.F w.al v d → Slots K w sl σ → Post K E' (fun w σ' sl' => Slots K w sl' σ' ∧ wipe σ' vs = wipe σ vs) w (gt d sl w.st) Q → g v σ w.H Q)
    (ht : RefT K E' tt ft) (hk : RefE K E' tk fk) (he : RefE K E' te fe) (hww : ∀ σ : St, wipe (wipe σ vs) vs = wipe σ vs) : RefE K E (tDc wi g tt tk te vs) (mDc fi gt ft fk fe vs) := fun sl σ w Q o s h => by
  refine hi sl σ w _ o s (post_bnd h fun J ds w1 o1 s1 hJ hp => ?_)
  intro Da nD
  have hnx : ∃ es st, dcL gt ft fk fe (wipeD sl vs) ds [] w1.st = some (.ok es st) ∧ Post K E (rD K) w1 (ret (.ptr st.length) (st ++ [some (.dct es)])) Q := by
    cases hm : dcL gt ft fk fe (wipeD sl vs) ds [] w1.st with
    | none => rw [hm] at hp; exact hp.elim
    | some r =>
      rw [hm] at hp
      cases r with
      | ok es st => exact ⟨es, st, rfl, hp⟩
      | exc _ _ => exact hp.elim
  obtain ⟨es, st, hrun, hfin⟩ := hnx
  refine ⟨fun i m H => i + m = ds.length ∧ ∃ (w' : Ws) (es1 : List (Key × D)) (xs : List (Key × V)), w'.H = H ∧ Ok K w' ∧ Step w1 w' ∧ H Da = some (.dK xs) ∧ w'.F Da = none ∧ ¬ Own w' Da ∧ (xs.map (·.1) = es1.map (·.1) ∧ Reps K w'.F w'.al (xs.map (·.2)) (es1.map (·.2))) ∧ dcL gt ft fk fe (wipeD sl vs) (ds.drop i) es1 w'.st = some (.ok es st),
    ⟨ds.length, by omega, w1.side Da (.dK []), [], [], rfl, ok_side o1 (o1.H_of_F nD) (not_own_new o1 nD) _, step_side (Step.refl _) nD _, upd_same, o1.H_of_F nD, not_own_new o1 nD, ⟨rfl, .nil⟩, hrun⟩, fun i m H ⟨em, w', es1, xs, eH, o', st', hD, fD, oD, rs, hW⟩ => ?_⟩
  subst eH
  obtain ⟨hstop, hgo⟩ := hJ w' o' st'
  cases m with
  | zero =>
    have ei : i = ds.length := by omega
    subst ei
    rw [List.drop_length] at hW
    have e1 : es1 = es ∧ w'.st = st := by
      have q : some (R.ok es1 w'.st) = some (R.ok es st) := hW
      injection q with q
      injection q with q1 q2
      exact ⟨q1, q2⟩
    obtain ⟨rfl, rfl⟩ := e1
    refine .inl ⟨hstop, ?_⟩
    have oo : Ok K ⟨w'.st ++ [some (.dct es1)], w'.al ++ [Da], w'.F, w'.H⟩ := adopt o' oD fD (.dct hD rs.1 (rs.2.mono (Le.refl _) (Pre.app _ _)))
    have s2 : Step w1 ⟨w'.st ++ [some (.dct es1)], w'.al ++ [Da], w'.F, w'.H⟩ := step_adopt st' o'.len nD
    exact hfin (.ref Da) ⟨w'.st ++ [some (.dct es1)], w'.al ++ [Da], w'.F, w'.H⟩ rfl oo s2 (.ptr (by
      show (w'.al ++ [Da])[w'.st.length]? = some Da
      rw [List.getElem?_append_right (by rw [o'.len]; exact Nat.le_refl _), o'.len, Nat.sub_self]; rfl))
  | succ m =>
    have hi' : i < ds.length := by omega
    have ed : ds[i]? = some ds[i] := List.getElem?_eq_getElem hi'
    obtain ⟨g1, g2⟩ := hgo i _ ed
    have side : ∀ w2 : Ws, Ok K w2 → Step w' w2 → w2.H Da = some (.dK xs) ∧ w2.F Da = none ∧ ¬ Own w2 Da := fun w2 o2 s2 => by
      have hne : w'.H Da ≠ none := by rw [hD]; exact Option.some_ne_none _
      exact ⟨s2.frame _ _ hD oD, (s2.old _ hne (fun ys z => by rw [hD] at z; cases z) oD).trans fD, fun z => (s2.news _ z).elim oD hne⟩
    refine .inr ⟨g1, fun H2 => ∃ (w2 : Ws) (es2 : List (Key × D)) (ys : List (Key × V)), w2.H = H2 ∧ Ok K w2 ∧ Step w1 w2 ∧ H2 Da = some (.dK ys) ∧ w2.F Da = none ∧ ¬ Own w2 Da ∧ (ys.map (·.1) = es2.map (·.1) ∧ Reps K w2.F w2.al (ys.map (·.2)) (es2.map (·.2))) ∧ dcL gt ft fk fe (wipeD sl vs) (ds.drop (i + 1)) es2 w2.st = some (.ok es st),
      fun H2 ⟨w2, es2, ys, h1, h2, h3, h4, h5, h6, h7, h8⟩ => ⟨m, by omega, by omega, w2, es2, ys, h1, h2, h3, h4, h5, h6, h7, h8⟩, fun x H' hy => ?_⟩
    obtain ⟨w2, rfl, est, o2, st2, rx⟩ := g2 x H' hy
    rw [List.drop_eq_getElem_cons hi'] at hW
    obtain ⟨sl2, sta, e1, hW⟩ := bnd_okI hW
    obtain ⟨b, stb, e2, hW⟩ := bnd_okI hW
    refine hg x ds[i] (wipeD sl vs) (wipe σ vs) w2 _ o2 rx ((slots_wipe ((s.step s1).step st') vs).step st2) (post_of_ok (by rw [est]; exact e1) fun σ3 w3 q3 o3 s3 r3 => ?_)
    refine ⟨by rw [r3.2]; exact hww σ, ?_⟩
    refine ht sl2 σ3 w3 _ o3 r3.1 (post_of_ok (by rw [q3]; exact e2) fun v w4 q4 o4 s4 r4 => ?_)
    have r4 : v = b := r4
    subst r4
    have st4 : Step w' w4 := (st2.trans s3).trans s4
    cases v with
    | false =>
      refine (if_neg Bool.false_ne_true).mpr ?_
      obtain ⟨a1, a2, a3⟩ := side w4 o4 st4
      exact ⟨w4, es1, xs, rfl, o4, st'.trans st4, a1, a2, a3, ⟨rs.1, rs.2.mono st4.le st4.pre⟩, by rw [q4]; exact hW⟩
    | true =>
      refine (if_pos rfl).mpr ?_
      obtain ⟨z, stk, ek, hW⟩ := bnd_okI hW
      obtain ⟨y, stc, e3, hW⟩ := bnd_okI hW
      cases hk2 : keyOf z with
      | none => rw [hk2] at hW; cases hW
      | some k =>
        rw [hk2] at hW
        have hl : es1.length < sizeLine := by
          by_cases z : es1.length < sizeLine
          · exact z
          · have hW : (if es1.length < sizeLine then dcL gt ft fk fe (wipeD sl vs) (ds.drop (i + 1)) (putD es1 k y) stc else none) = some (.ok es st) := hW
            rw [if_neg z] at hW; cases hW
        have hW : (if es1.length < sizeLine then dcL gt ft fk fe (wipeD sl vs) (ds.drop (i + 1)) (putD es1 k y) stc else none) = some (.ok es st) := hW
        rw [if_pos hl] at hW
        refine hk sl2 σ3 w4 _ o4 (r3.1.step s4) (post_of_ok (by rw [q4]; exact ek) fun u0 w5 q5 o5 s5 r5 => ?_)
        refine he sl2 σ3 w5 _ o5 ((r3.1.step s4).step s5) (post_of_ok (by rw [q5]; exact e3) fun u w6 q6 o6 s6 r6 => ?_)
        have st6 : Step w' w6 := (st4.trans s5).trans s6
        obtain ⟨a1, a2, a3⟩ := side w6 o6 st6
        have pr := put_rep (k := k) r6 rs.1 (rs.2.mono st6.le st6.pre)
        exact ⟨xs, k, keyOf_rep r5 hk2, a1, by rw [len_key rs.1]; exact hl, w6.side Da (.dK (putK xs k u)), putD es1 k y, putK xs k u, rfl, ok_side o6 a2 a3 _, step_side (st'.trans st6) nD _, upd_same, a2, a3, pr, by show dcL _ _ _ _ _ _ _ w6.st = _; rw [q6]; exact hW⟩
end
section
variable {X : Cx} {E E' : XK} {kx vx tg iter c : Expr} {pos : Pos} {scope : Scope} {own : List (Str × Nat)} {fi : FA} {gt : FG} {ft : FT} {fk fe : FE} {g : TG}
/-- {k: v for x in xs} -/
theorem me_dc (hc : X.calm = true) (hN : X.N.Nodup) (hi : MI X E tg iter fi) (ok : BlkOk X.N X.env.scope scope own)
    (hg : ∀ (s : Shared) (H : Hp) (C : Addr) (cl : List (Str × Addr)) (fp : List Addr), PG (X.blk s H scope (compEnvC scope cl C X.env) fp) tg g) (hgr : RfGW X.K E' (own.map (·.2)) g gt)
    (hk : ∀ (s : Shared) (H : Hp) (C : Addr) (cl : List (Str × Addr)) (fp : List Addr), ME (X.blk s H scope (compEnvC scope cl C X.env) fp) E' kx fk)
    (he : ∀ (s : Shared) (H : Hp) (C : Addr) (cl : List (Str × Addr)) (fp : List Addr), ME (X.blk s H scope (compEnvC scope cl C X.env) fp) E' vx fe) (hs : ∀ x, foldedSetIterable iter X.env x = pure x := by intro _; rfl) :
    ME X E (.DictComp kx vx [⟨tg, iter, [], 0⟩] scope pos) (mDc fi gt tYesD fk fe (own.map (·.2))) := by
  obtain ⟨wi, p, q⟩ := hi.ex
  refine ⟨_, pe_dc hc hN p ok hg (fun _ _ _ _ _ => pts_nil) (fun s H C cl fp => (show PE (X.blk s H scope (compEnvC scope cl C X.env) fp) kx (tE X.K E' fk) from (hk s H C cl fp).can)) (fun s H C cl fp => (show PE (X.blk s H scope (compEnvC scope cl C X.env) fp) vx (tE X.K E' fe) from (he s H C cl fp).can)) hs, ?_⟩
  refine ref_dc (E' := E') q hgr (fun sl σ w Q o s h => post_ret o rfl h) (fun sl σ w Q o s h => ⟨sl, w, rfl, o, s, h⟩) (fun sl σ w Q o s h => ⟨sl, w, rfl, o, s, h⟩) fun σ => wipe_wipe σ _
/-- {k: v for x in xs if c} -/
theorem me_dcIf (hc : X.calm = true) (hN : X.N.Nodup) (hi : MI X E tg iter fi) (ok : BlkOk X.N X.env.scope scope own)
    (hg : ∀ (s : Shared) (H : Hp) (C : Addr) (cl : List (Str × Addr)) (fp : List Addr), PG (X.blk s H scope (compEnvC scope cl C X.env) fp) tg g) (hgr : RfGW X.K E' (own.map (·.2)) g gt)
    (ht : ∀ (s : Shared) (H : Hp) (C : Addr) (cl : List (Str × Addr)) (fp : List Addr), MT (X.blk s H scope (compEnvC scope cl C X.env) fp) E' c ft)
    (hk : ∀ (s : Shared) (H : Hp) (C : Addr) (cl : List (Str × Addr)) (fp : List Addr), ME (X.blk s H scope (compEnvC scope cl C X.env) fp) E' kx fk)
    (he : ∀ (s : Shared) (H : Hp) (C : Addr) (cl : List (Str × Addr)) (fp : List Addr), ME (X.blk s H scope (compEnvC scope cl C X.env) fp) E' vx fe) (hs : ∀ x, foldedSetIterable iter X.env x = pure x := by intro _; rfl) :
    ME X E (.DictComp kx vx [⟨tg, iter, [c], 0⟩] scope pos) (mDc fi gt ft fk fe (own.map (·.2))) := by
  obtain ⟨wi, p, q⟩ := hi.ex
  refine ⟨_, pe_dc hc hN p ok hg (fun s H C cl fp => pts_one (show PT (X.blk s H scope (compEnvC scope cl C X.env) fp) c (tT X.K E' ft) from (ht s H C cl fp).can)) (fun s H C cl fp => (show PE (X.blk s H scope (compEnvC scope cl C X.env) fp) kx (tE X.K E' fk) from (hk s H C cl fp).can)) (fun s H C cl fp => (show PE (X.blk s H scope (compEnvC scope cl C X.env) fp) vx (tE X.K E' fe) from (he s H C cl fp).can)) hs, ?_⟩
  refine ref_dc (E' := E') q hgr (fun sl σ w Q o s h => ⟨sl, w, rfl, o, s, h⟩) (fun sl σ w Q o s h => ⟨sl, w, rfl, o, s, h⟩) (fun sl σ w Q o s h => ⟨sl, w, rfl, o, s, h⟩) fun σ => wipe_wipe σ _
end
end M
/-! runs -/
namespace M
open PySem L2
variable {sl : Sl} {st : Sto} {Q : D → Sto → Prop}
theorem ens_DC {it : FA} {gt : FG} {tt : FT} {fk fe : FE} {vs : List Nat} (q : Ens (it sl st) fun ds st => Ens (dcL gt tt fk fe (wipeD sl vs) ds [] st) fun kvs st => Q (.ptr st.length) (st ++ [some (.dct kvs)])) : Ens (mDc it gt tt fk fe vs sl st) Q := ens_bnd (q.imp fun _ _ q => ens_bnd (ens_noX (q.imp fun _ _ q => ens_ret q)))
/-- a comprehension that reads only: I what holds after k items -/
theorem dc_inv {gt : FG} {tt : FT} {fk fe : FE} {sl : Sl} (I : Nat → List (Key × D) → Sto → Prop) : ∀ (ds : List D) (k : Nat) (es : List (Key × D)) (st : Sto) {Q : List (Key × D) → Sto → Prop}, I k es st → es.length + ds.length ≤ 1000000 → (∀ k es st, I k es st → es.length ≤ k) → k + ds.length ≤ 1000000 →
    (∀ (j : Nat) d es st, ds[j]? = some d → I (k + j) es st → Ens (gt d sl st) fun sl2 st => Ens (tt sl2 st) fun b st => (b = true → Ens (fk sl2 st) fun z st => Ens (fe sl2 st) fun y st => ∃ kk, keyOf z = some kk ∧ I (k + j + 1) (putD es kk y) st) ∧ (b = false → I (k + j + 1) es st)) →
    (∀ es st, I (k + ds.length) es st → Q es st) → Ens (dcL gt tt fk fe sl ds es st) Q
  | [], k, es, st, Q, h0, _, _, _, _, hd => ens_ret (hd es st h0)
  | d :: r, k, es, st, Q, h0, hl, hI, hb, hs, hd => by
    rw [List.length_cons] at hl hb
    have go : ∀ es st, I (k + 1) es st → Ens (dcL gt tt fk fe sl r es st) Q := fun es st h => dc_inv I r (k + 1) es st h (by have := hI _ _ _ h; omega) hI (by omega) (fun j d es st e h => by
      have e1 : k + 1 + j = k + (j + 1) := by omega
      rw [e1] at h ⊢
      exact hs (j + 1) d es st e h) fun es st h => hd es st (by
      have e1 : k + (d :: r).length = k + 1 + r.length := by rw [List.length_cons]; omega
      rw [e1]; exact h)
    refine ens_bnd ((hs 0 d es st rfl h0).imp fun sl2 st2 h => ens_bnd (h.imp fun b st3 h => ens_cond (fun e => ?_) fun e => go es st3 (h.2 e)))
    refine ens_bnd ((h.1 e).imp fun z st4 h => ens_bnd (h.imp fun y st5 ⟨kk, ek, hi⟩ => ?_))
    show Ens (match keyOf z with
      | some k => if es.length < sizeLine then dcL gt tt fk fe sl r (putD es k y) st5 else none
      | none => none) Q
    rw [ek]
    exact ens_ite (by have := hI _ _ _ h0; unfold PySem.sizeLine; omega) (go _ st5 hi)
end M

/-! dict(xs), xs a list of pairs; keys whole numbers or texts. -/
namespace M
open PySem L2
def pairOf (d : D) : Option (Key × D) := match d with
  | .tup [k, v] => match keyOf k with
    | some k => some (k, v)
    | none => none
  | _ => none
def pairsOf : List D → Option (List (Key × D))
  | [] => some []
  | d :: r => match pairOf d, pairsOf r with
    | some p, some ps => some (p :: ps)
    | _, _ => none
def mergeD (acc : List (Key × D)) (kvs : List (Key × D)) : List (Key × D) := kvs.foldl (fun acc kv => putD acc kv.1 kv.2) acc
section
variable {K : PySem.W.Frag} {E : XK}
theorem pairsOf_rep {w : Ws} (o : Ok K w) : ∀ {xs : List V} {ds : List D} {kvs : List (Key × D)}, Reps K w.F w.al xs ds → pairsOf ds = some kvs → ∃ (ps : List Addr) (vs : List (Key × V)), xs = ps.map V.ref ∧ Paired (fun p kv => SqT K w.H p [kV kv.1, kv.2]) ps vs ∧ vs.map (·.1) = kvs.map (·.1) ∧ Reps K w.F w.al (vs.map (·.2)) (kvs.map (·.2))
  | _, _, kvs, .nil, h => by
    cases h
    exact ⟨[], [], rfl, .nil, rfl, .nil⟩
  | _, _, kvs, .cons (d := d) (ds := ds) r rs, h => by
    rw [pairsOf] at h
    cases h1 : pairOf d with
    | none => simp only [h1] at h; cases h
    | some p =>
      cases h2 : pairsOf ds with
      | none => simp only [h1, h2] at h; cases h
      | some ps =>
        simp only [h1, h2] at h
        cases h
        obtain ⟨as, vs, e1, e2, e3, e4⟩ := pairsOf_rep o rs h2
        unfold pairOf at h1
        split at h1
        · rename_i k v
          cases hk : keyOf k with
          | none => simp only [hk] at h1; cases h1
          | some kk =>
            simp only [hk] at h1
            cases h1
            obtain ⟨a, ys, rfl, f, ry⟩ := r.tup_inv
            obtain ⟨y1, y2, rfl, r1, r2⟩ := ry.two_inv
            have ek := keyOf_rep r1 hk
            subst ek
            refine ⟨a :: as, (kk, y2) :: vs, by rw [e1]; rfl, .cons (SqT.of (o.sub _ _ f)) e2, by rw [List.map_cons, List.map_cons, e3], .cons r2 e4⟩
        · cases h1
theorem merge_rep {F : Hp} {α : List Addr} : ∀ {vs : List (Key × V)} {kvs : List (Key × D)} {av : List (Key × V)} {ad : List (Key × D)}, vs.map (·.1) = kvs.map (·.1) → Reps K F α (vs.map (·.2)) (kvs.map (·.2)) → av.map (·.1) = ad.map (·.1) → Reps K F α (av.map (·.2)) (ad.map (·.2)) →
    (mergeK av vs).map (·.1) = (mergeD ad kvs).map (·.1) ∧ Reps K F α ((mergeK av vs).map (·.2)) ((mergeD ad kvs).map (·.2))
  | [], [], _, _, _, _, h3, h4 => ⟨h3, h4⟩
  | [], _ :: _, _, _, h, _, _, _ => by cases h
  | _ :: _, [], _, _, h, _, _, _ => by cases h
  | (k, v) :: vs, (k', d) :: kvs, av, ad, h1, h2, h3, h4 => by
    rw [List.map_cons, List.map_cons] at h1 h2
    have e : k = k' := (List.cons.inj h1).1
    subst e
    cases h2 with
    | cons r rs =>
      obtain ⟨p1, p2⟩ := put_rep (k := k) r h3 h4
      have ih := merge_rep (vs := vs) (kvs := kvs) (List.cons.inj h1).2 rs p1 p2
      exact ih
def cDictP (st : Sto) (ds : List D) : MM D := match ds with
  | [d] => match lstOf st d with
    | some es => match pairsOf es with
      | some kvs => ret (.ptr st.length) (st ++ [some (.dct (mergeD [] kvs))])
      | none => none
    | none => none
  | _ => none
theorem rf_dictP : RfC K E (fun xs H Q => ∃ (a : Addr) (ps : List Addr) (kvs : List (Key × V)), xs = [.ref a] ∧ SqL K H a (ps.map V.ref) ∧ Paired (fun p kv => SqT K H p [kV kv.1, kv.2]) ps kvs ∧ ∀ p, H p = none → Q (.ref p) (upd H p (.dK (mergeK [] kvs)))) cDictP := fun xs ds w Q o r hp => by
  unfold cDictP at hp
  split at hp
  · rename_i d
    obtain ⟨x, rfl, rx⟩ := r.one_inv
    cases g : lstOf w.st d with
    | none => simp only [g] at hp; exact hp.elim
    | some es =>
      simp only [g] at hp
      cases g2 : pairsOf es with
      | none => simp only [g2] at hp; exact hp.elim
      | some kvs =>
        simp only [g2] at hp
        obtain ⟨a, xs, rfl, hs, rs⟩ := lstOf_rep o rx g
        obtain ⟨as, vs, e1, e2, e3, e4⟩ := pairsOf_rep o rs g2
        subst e1
        refine ⟨a, as, vs, rfl, hs, e2, fun p np => ?_⟩
        obtain ⟨m1, m2⟩ := merge_rep (av := []) (ad := []) e3 e4 rfl .nil
        exact hp (.ref p) (w.newC p (.dK (mergeK [] vs)) (.dct (mergeD [] kvs))) rfl (ok_newC o np (.dct upd_same m1 (m2.mono (Le.refl _) (Pre.app _ _)))) (step_newC o np _ _) (ptr_new o _ _ _)
  · exact hp.elim
end
end M

/-! {(a, b): v, (c, d): w, ..}: tuples as keys, any number up to 15, no two alike. -/
namespace M
open PySem PySem.Spec PyProof.Rows L2
section
variable {X : Cx} {E : XK} {K : PySem.W.Frag} {a b : Expr} {fa fb : FE} {fs : FA} {pos : Pos}
/-- the pairs, the keys tuples that stand at addresses -/
abbrev KP (H : Hp) : List (V × V) → List (List Key × V) → Prop := Paired fun p q => (∃ b, p.1 = .ref b ∧ H b = some (.tup (q.1.map kV))) ∧ p.2 = q.2
def tDispT (trs : List (TE × TE)) : TE := fun σ H Q => ∀ p, H p = none → tPairs trs σ (upd H p (.dT [])) fun ps H2 => H2 p = some (.dT []) ∧ ∃ kvs : List (List Key × V), KP H2 ps kvs ∧ (kvs.map (·.1)).Nodup ∧ Q (.ref p) (upd H2 p (.dT kvs))
theorem kp_carries {s : Shared} {H : Hp} (ok : HOk X.prog X.w H s.heap) : ∀ {ps : List (V × V)} {kvs : List (List Key × V)} {ws : List (Value × Value)}, KP H ps kvs → VV ps ws → ∃ xs : List (List Key × Addr × Value), CarriesH (tupleKind (mixKind X.prog X.w)) s.heap ws xs ∧ KT H kvs xs ∧ xs.map (·.1) = kvs.map (·.1) ∧ xs.length = ws.length
  | _, _, _, .nil, .nil => ⟨[], trivial, .nil, rfl, rfl⟩
  | (x, y) :: ps, (k, v) :: kvs, (u, z) :: ws, .cons h hr, .cons r rr => by
    obtain ⟨xs, c, kt, e, el⟩ := kp_carries ok hr rr
    obtain ⟨⟨b, e1, e2⟩, e3⟩ := h
    have e1 : x = .ref b := e1
    have e3 : y = v := e3
    subst e1 e3
    obtain ⟨r1, r2⟩ := r
    have r1 : u = .ref b := r1
    subst r1
    exact ⟨(k, b, z) :: xs, ⟨rfl, rfl, key_of ok e2, c⟩, .cons ⟨rfl, e2, r2⟩ kt, by rw [List.map_cons, List.map_cons, e], by rw [List.length_cons, List.length_cons, el]⟩
theorem kt_upd {H : Hp} {p : Addr} {o : HO} (hp : ∀ t, H p ≠ some (.tup t)) : ∀ {kvs : List (List Key × V)} {xs : List (List Key × Addr × Value)}, KT H kvs xs → KT (upd H p o) kvs xs
  | _, _, .nil => .nil
  | _, _, .cons h t => .cons ⟨h.1, by rw [upd_ne (fun z => hp _ (by rw [← z]; exact h.2.1))]; exact h.2.1, h.2.2⟩ (kt_upd hp t)
theorem kt_len {H : Hp} : ∀ {kvs : List (List Key × V)} {xs : List (List Key × Addr × Value)}, KT H kvs xs → kvs.length = xs.length
  | _, _, .nil => rfl
  | _, _, .cons _ t => congrArg (· + 1) (kt_len t)
theorem pe_dispT {keys : List (Option Expr)} {values : List Expr} {trs : List (TE × TE)} (hu : X.A.units + 1 < cLine) (h : PPs X pos keys values trs) (hall : keys.all (·.isSome) = true) (hl : keys.length = values.length) (h0 : keys ≠ []) (h15 : keys.length ≤ 15) : PE X (.Dict keys values pos) (tDispT trs) := by
  refine ⟨fun pins s σ H Q I q => ?_⟩
  have hn := I.hok.fresh (Nat.le_refl s.heap.objs.size)
  have I1 := I.laid (a := s.heap.objs.size) (o := .dT []) (h' := s.heap.push { cls := .type "dict", data := .dict #[] }) (t' := s.toks) (fun _ _ q => Heap.get?_push_of_some _ q) (Nat.le_refl _) (dt_empty s.heap I.big)
  have hlp : (pairTrees keys values X.env pos).length = keys.length := pairTrees_length keys values X.env pos hall hl
  have hne : keys.length ≠ 0 := fun z => h0 (List.length_eq_zero_iff.mp z)
  rw [arm_eval_Dict, zip_pairTrees keys values X.env pos hall hl, dictDisplay_pairs _ (fun z => by rw [z] at hlp; exact hne hlp.symm) (by omega)]
  refine wpAny_bind (wpAny_standAt (wpAny_bind (wpAny_subDictH (knd := tupleKind (mixKind X.prog X.w)) (show (tupleKind (mixKind X.prog X.w)).room X.A from Nat.lt_of_succ_lt hu) (by omega) ?_)))
  refine thn (wpAny_evalPairs_len (h.run pins _ σ _ _ I1 (q _ hn))) fun ws s2 ⟨el, ps, H2, I2, rel, e, kvs, kp, nd, q2⟩ => ?_
  obtain ⟨xs, c, kt, ek, exl⟩ := kp_carries (X := X) I2.hok kp rel
  obtain ⟨z, hd, vs0, r0, dd⟩ := dt_of I2.hok e
  cases r0
  have est : storedAllH [] xs = xs := storedAllH_nil_of_nodup xs (by rw [ek]; exact nd)
  refine ⟨xs, c, dd, fun h' tk dd' hs => wpAny_pure ?_⟩
  rw [est] at dd'
  obtain ⟨q, es, ep, hq, h2, h3, h4, _, h5⟩ := dd'
  have kt' : KT (upd H2 s.heap.objs.size (.dT kvs)) kvs xs := kt_upd (fun t z => by rw [e] at z; cases z) kt
  have hlen : kvs.length ≤ sizeLine := by
    have := kt_len kt
    rw [sizeLine_eq]; omega
  have new : ObjOk X.prog X.w (upd H2 s.heap.objs.size (.dT kvs)) h' s.heap.objs.size (.dT kvs) := ⟨hlen, hd, xs, kt', q, es, ep, hq, h2, h3, h4, h5⟩
  exact ⟨.ref s.heap.objs.size, _, d_write I2 (by rw [e]; exact True.intro) hs ⟨q, hq⟩ new, rfl, q2⟩
/-! with data -/
def kvL : List (FE × FE) → Sl → Sto → MM (List (List D × D))
  | [], _, st => ret [] st
  | (fk, fv) :: r, sl, st => bnd (fk sl st) fun x st => bnd (fv sl st) fun y st => bnd (kvL r sl st) fun l st => match x with
    | .tup ks => ret ((ks, y) :: l) st
    | _ => none
abbrev rKV (K : PySem.W.Frag) : Ws → List (V × V) → List (List D × D) → Prop := fun w ps l => Reps K w.F w.al (ps.map (·.1)) (l.map fun p => D.tup p.1) ∧ Reps K w.F w.al (ps.map (·.2)) (l.map (·.2))
structure MKT (X : Cx) (E : XK) (pos : Pos) (keys : List (Option Expr)) (values : List Expr) (fs : List (FE × FE)) : Prop where
  ex : ∃ trs, PPs X pos keys values trs ∧ ∀ sl σ w (Q : List (V × V) → Hp → Prop), Ok X.K w → Slots X.K w sl σ → Post X.K E (rKV X.K) w (kvL fs sl w.st) Q → tPairs trs σ w.H Q
theorem mkt_nil : MKT X E pos [] [] [] := ⟨[], pps_nil, fun sl σ w Q o s h => post_ret (rp := rKV X.K) o ⟨.nil, .nil⟩ h⟩
theorem mkt_cons {keys : List (Option Expr)} {values : List Expr} {fr : List (FE × FE)} (hk : ME X E a fa) (hv : ME X E b fb) (hr : MKT X E pos keys values fr) : MKT X E pos (some a :: keys) (b :: values) ((fa, fb) :: fr) := by
  obtain ⟨tk, p, q⟩ := hk.ex
  obtain ⟨tv, p2, q2⟩ := hv.ex
  obtain ⟨trs, p3, q3⟩ := hr.ex
  refine ⟨_, pps_cons p p2 p3, fun sl σ w Q o s h => ?_⟩
  refine q sl σ w _ o s (post_bnd h fun x dx w1 o1 s1 rx h1 => ?_)
  refine q2 sl σ w1 _ o1 (s.step s1) (post_bnd h1 fun y dy w2 o2 s2 ry h2 => ?_)
  refine q3 sl σ w2 _ o2 ((s.step s1).step s2) (post_bnd h2 fun ps l w3 o3 s3 rl h3 => ?_)
  cases dx with
  | tup ks =>
    have z : rKV X.K w3 ((x, y) :: ps) ((ks, dy) :: l) := ⟨.cons ((rx.mono s2.le s2.pre).mono s3.le s3.pre) rl.1, .cons (ry.mono s3.le s3.pre) rl.2⟩
    exact post_ret (rp := rKV X.K) o3 z h3
  | _ => exact h3.elim
def keysL : List (List D × D) → Option (List (List Key × D))
  | [] => some []
  | (ks, y) :: r => match keysOf ks, keysL r with
    | some k, some l => some ((k, y) :: l)
    | _, _ => none
theorem keysL_rep {w : Ws} (o : Ok K w) : ∀ {ps : List (V × V)} {l : List (List D × D)} {kvs : List (List Key × D)}, rKV K w ps l → keysL l = some kvs → ∃ kv : List (List Key × V), KP w.H ps kv ∧ kv.map (·.1) = kvs.map (·.1) ∧ Reps K w.F w.al (kv.map (·.2)) (kvs.map (·.2))
  | [], [], kvs, _, h => by
    cases h
    exact ⟨[], .nil, rfl, .nil⟩
  | [], _ :: _, _, r, _ => by
    have := r.1
    cases this
  | _ :: _, [], _, r, _ => by
    have := r.1
    cases this
  | (x, y) :: ps, (ks, d) :: l, kvs, r, h => by
    obtain ⟨r1, r2⟩ := r
    rw [List.map_cons, List.map_cons] at r1 r2
    rw [keysL] at h
    cases h1 : keysOf ks with
    | none => simp only [h1] at h; cases h
    | some k =>
      cases h2 : keysL l with
      | none => simp only [h1, h2] at h; cases h
      | some kl =>
        simp only [h1, h2] at h
        cases h
        cases r1 with
        | cons a1 b1 =>
          cases r2 with
          | cons a2 b2 =>
            obtain ⟨kv, e1, e2, e3⟩ := keysL_rep o (ps := ps) ⟨b1, b2⟩ h2
            obtain ⟨b, xs, e4, f, rxs⟩ := a1.tup_inv
            have e4 : x = .ref b := e4
            subst e4
            exact ⟨(k, y) :: kv, .cons ⟨⟨b, rfl, by rw [← keysOf_rep rxs h1]; exact o.sub _ _ f⟩, rfl⟩ e1, by rw [List.map_cons, List.map_cons, e2], .cons a2 e3⟩
def emptyCT (st : Sto) (i : Nat) : Bool := match cellT st i with
  | some [] => true
  | _ => false
theorem emptyCT_is {st : Sto} {i : Nat} (h : emptyCT st i = true) : cellT st i = some [] := by
  unfold emptyCT at h
  split at h
  · assumption
  · cases h
/-- {(a, b): v, ..} -/
def mDispN (fs : List (FE × FE)) : FE := fun sl st => bnd (kvL fs sl (st ++ [some (.dcT [])])) fun l st2 => match keysL l with
  | some kvs => if emptyCT st2 st.length = true ∧ (kvs.map (·.1)).Nodup then ret (D.ptr st.length) (st2.set st.length (some (.dcT kvs))) else none
  | none => none
theorem me_dispN {keys : List (Option Expr)} {values : List Expr} {fr : List (FE × FE)} (hu : X.A.units + 1 < cLine) (h : MKT X E pos keys values fr) (hall : keys.all (·.isSome) = true := by rfl) (hl : keys.length = values.length := by rfl) (h0 : keys ≠ [] := by intro z; cases z)
    (h15 : keys.length ≤ 15 := by decide) : ME X E (.Dict keys values pos) (mDispN fr) := by
  obtain ⟨trs, p, q⟩ := h.ex
  refine ⟨_, pe_dispT hu p hall hl h0 h15, fun sl σ w Q o s hp p np => ?_⟩
  have o1 := ok_newC (u := .dT []) (c := .dcT []) o np (.dcT upd_same rfl .nil)
  have s1 := step_newC o np (.dT []) (.dcT [])
  have r1 : Rep X.K (w.newC p (.dT []) (.dcT [])).F (w.newC p (.dT []) (.dcT [])).al (.ref p) (.ptr w.st.length) := ptr_new o _ _ _
  refine q sl σ (w.newC p (.dT []) (.dcT [])) _ o1 (s.step s1) (post_bnd (k := fun l st2 => match keysL l with
    | some kvs => if emptyCT st2 w.st.length = true ∧ (kvs.map (·.1)).Nodup then ret (D.ptr w.st.length) (st2.set w.st.length (some (.dcT kvs))) else none
    | none => none) (Post.step s1 hp) fun ps l w2 o2 s2 rl h2 => ?_)
  cases g : keysL l with
  | none => simp only [g] at h2; exact h2.elim
  | some kvs =>
    simp only [g] at h2
    obtain ⟨⟨e0, nd⟩, h2⟩ := post_ite h2
    have e1 := emptyCT_is e0
    have r2 := r1.mono s2.le s2.pre
    obtain ⟨a, ea, hal, _, ca⟩ := cell_at o2 r2 (cellT_some e1)
    injection ea with ea
    subst ea
    have lv : Live w2.st w.st.length := ⟨_, cellT_some e1⟩
    obtain ⟨kv, k1, k2, k3⟩ := keysL_rep o2 rl g
    cases ca with
    | @dcT kvs0 _ hx ek _ =>
      have : kvs0 = [] := List.map_eq_nil_iff.mp ek
      subst this
      exact ⟨hx, kv, k1, by rw [k2]; exact nd, h2 (.ref p) (w2.put w.st.length p (.dT kv) (.dcT kvs)) rfl (ok_put o2 lv hal (.dcT upd_same k2 k3)) (step_put o2 lv hal _ _) r2⟩
/-! runs -/
variable {sl : Sl} {st : Sto}
theorem ens_kv0 {P : List (List D × D) → Sto → Prop} (q : P [] st) : Ens (kvL [] sl st) P := ens_ret q
theorem ens_kv {fk fv : FE} {r : List (FE × FE)} {P : List (List D × D) → Sto → Prop} (q : Ens (fk sl st) fun x st => Ens (fv sl st) fun y st => Ens (kvL r sl st) fun l st => ∃ ks, x = .tup ks ∧ P ((ks, y) :: l) st) : Ens (kvL ((fk, fv) :: r) sl st) P :=
  ens_bnd (q.imp fun x _ q1 => ens_bnd (q1.imp fun y _ q2 => ens_bnd (q2.imp fun l _ ⟨ks, e, q⟩ => by subst e; exact ens_ret q)))
theorem ens_DN {fs : List (FE × FE)} {Q : D → Sto → Prop} (q : Ens (kvL fs sl (st ++ [some (.dcT [])])) fun l st2 => ∃ kvs, keysL l = some kvs ∧ emptyCT st2 st.length = true ∧ (kvs.map (·.1)).Nodup ∧ Q (.ptr st.length) (st2.set st.length (some (.dcT kvs)))) : Ens (mDispN fs sl st) Q :=
  ens_bnd (q.imp fun l st2 ⟨kvs, e, h1, h2, q⟩ => by
    rw [e]
    exact ens_ite ⟨h1, h2⟩ (ens_ret q))
end
end M

/-! defs as values: given as an argument, called by a local name. -/
namespace M
open PySem PySem.Spec L2
section
variable {P : Program} {w : World} {K : PySem.W.Frag} {mg : Str → Option Value} {base : Heap}
/-- the def at a -/
structure CalF (P : Program) (w : World) (K : PySem.W.Frag) (mg : Str → Option Value) (base : Heap) (k : Nat) (a : Addr) (n : Nat) (m : List D → Sto → MM D) : Prop where
  ex : ∃ (fd : FuncData) (ps : List Str), FnOk P w K mg base (L2.CX P w) k a fd ps (spM K n m) ∧ PySem.W.keepIn K (.ref a) = true ∧ Binds K fd ps []
theorem calF_of {k : Nat} {x : Str} {a : Addr} {ps : List Str} {m : List D → Sto → MM D} (C : CalX P w K mg base k x ps m) (h : mg x = some (.ref a)) : CalF P w K mg base k a ps.length m := by
  obtain ⟨f, fd, F, h1, h2, h3⟩ := C.ex
  rw [h] at h1
  cases h1
  exact ⟨fd, ps, F, h2, h3⟩
end
section
variable {X : Cx} {E : XK} {e : Expr} {es : List Expr} {fs : FA} {x : Str} {p pos : Pos} {k n i : Nat}
/-- the name of a def of the module, as a value -/
theorem me_fnV {a : Addr} (h : X.mg x = some (.ref a)) (hg : Gl X x := by rfl) (hd : (x == ("__debug__" : Str)) = false := by decide) : ME X E (.Name x pos) (mC (.fnc a)) :=
  ⟨_, pe_glob hg h (show RelV (.ref a) (.ref a) from rfl) hd, ref_c fun F α => .fnc a⟩
def tCallV (X : Cx) (E : XK) (k n i : Nat) (t : TA) : TE := fun σ H Q => ∃ (a : Addr) (m : List D → Sto → MM D), CalF X.prog X.w X.K X.mg X.base k a n m ∧ σ[i]? = some (some (.ref a)) ∧ t σ H fun vs H1 => spM X.K n m vs H1 Q E
theorem pe_callV {t : TA} (tk : Takes X fun c d _ H => E c d H) (hr : Room k X.A) (hN : X.N[i]? = some x) (hv : Vis X.env.scope x) (ha : PA X (e :: es) t) (hdb : (x == ("__debug__" : Str)) = false := by decide) (hcd : (x == ("__classdict__" : Str)) = false := by decide)
    (he : starEach (e :: es) X.env = (false, eval e X.env) :: starEach es X.env := by rfl) (hpl : (backTo pos (starEach es X.env)).any (·.1) = false := by rfl) : PE X (.Call (.Name x p) (e :: es) [] pos) (tCallV X E k n i t) := by
  refine ⟨fun pins s σ H Q I h => ?_⟩
  obtain ⟨a, m, C, hs, ht⟩ := h
  obtain ⟨fd, ps, F, h2, h3⟩ := C.ex
  refine (pe_callL (i := i) (f := a) (sp := spM X.K n m) (dvs := []) (E := E) F hr hN hv h2 h3 .nil (fun pins σ H s e s' I h => passes_call tk (fun _ _ _ _ h => h) pins σ H s e s' I h) ha hdb hcd he hpl).run pins s σ H Q I ⟨hs, ?_⟩
  have e0 : (fun (vs : List V) (H1 : Hp) => spM X.K n m (vs ++ []) H1 Q E) = fun vs H1 => spM X.K n m vs H1 Q E := by
    funext vs H1
    rw [List.append_nil]
  rw [e0]
  exact ht
/-- the slot holds one of the defs of a table -/
def mCallV (i : Nat) (tbl : List (Addr × (List D → Sto → MM D))) (f : FA) : FE := fun sl st => match gv sl i with
  | some (.fnc a) => match tbl.lookup a with
    | some c => bnd (f sl st) c
    | none => none
  | _ => none
theorem lookup_mem {α : Type} {a : Addr} {c : α} : ∀ {l : List (Addr × α)}, l.lookup a = some c → (a, c) ∈ l
  | (b, d) :: r, h => by
    rw [List.lookup_cons] at h
    by_cases z : a == b
    · rw [z] at h
      have : a = b := by simpa using z
      subst this
      cases h
      exact List.mem_cons_self
    · have z : (a == b) = false := by simpa using z
      rw [z] at h
      exact List.mem_cons_of_mem _ (lookup_mem h)
theorem me_callV {tbl : List (Addr × (List D → Sto → MM D))} (T : ∀ q ∈ tbl, ∃ m, CalF X.prog X.w X.K X.mg X.base k q.1 n m ∧ CallF X.K E n m q.2) (tk : Takes X fun c d _ H => E c d H) (hr : Room k X.A) (ha : MA X E (e :: es) fs)
    (hN : X.N[i]? = some x := by rfl) (hv : Vis X.env.scope x := by first | exact Or.inl rfl | exact Or.inr (Or.inl rfl) | exact Or.inr (Or.inr rfl)) (hdb : (x == ("__debug__" : Str)) = false := by decide) (hcd : (x == ("__classdict__" : Str)) = false := by decide)
    (he : starEach (e :: es) X.env = (false, eval e X.env) :: starEach es X.env := by rfl) (hpl : (backTo pos (starEach es X.env)).any (·.1) = false := by rfl) : ME X E (.Call (.Name x p) (e :: es) [] pos) (mCallV i tbl fs) := by
  obtain ⟨t, pp, q⟩ := ha.ex
  refine ⟨_, pe_callV (n := n) tk hr hN hv pp hdb hcd he hpl, fun sl σ w Q o s h => ?_⟩
  have h : Post X.K E (rD X.K) w (match gv sl i with
    | some (.fnc a) => match tbl.lookup a with
      | some c => bnd (fs sl w.st) c
      | none => none
    | _ => none) Q := h
  cases g : gv sl i with
  | none => simp only [g] at h; exact h.elim
  | some d =>
    cases d with
    | fnc a =>
      simp only [g] at h
      cases g2 : tbl.lookup a with
      | none => simp only [g2] at h; exact h.elim
      | some c =>
        simp only [g2] at h
        obtain ⟨m, C, hc⟩ := T _ (lookup_mem g2)
        obtain ⟨v, e1, r⟩ := s.get i (.fnc a) (gv_some g)
        have ev : v = .ref a := by cases r; rfl
        subst ev
        exact ⟨a, m, C, e1, q sl σ w _ o s (post_bnd h fun vs ds w1 o1 s1 r hp => hc w1 vs ds Q o1 r hp)⟩
    | _ => simp only [g] at h; exact h.elim
end
end M

/-! raise C(e) where C is an own class without __init__; except C: return None; two defs as values. -/
namespace M
open PySem PySem.Spec L2
structure RaiseOk0 (P : Program) (w : World) (K : PySem.W.Frag) (mg : Str → Option Value) (base : Heap) (cs : Cs) (n : Str) : Prop where
  x : PySem.W.excIn K (cs.C n) [.type "ValueError", .type "Exception", .type "BaseException", .type "object"] "ValueError.__new__" = true
  g : mg n = some (.ref (cs.C n))
  k : PySem.W.keepIn K (.ref (cs.C n)) = true
  b : PySem.W.subIn K (.ref (cs.C n)) (.type "BaseException") = some true
  t : PySem.W.typeIn K (.ref (cs.C n)) = some (.type "type")
def sRaise0 (C : Addr) (f : FE) : FS := fun sl st => bnd (f sl st) fun _ st => some (.exc ⟨C, []⟩ st)
section
variable {cs : Cs} {X : Cx} {E : XK} {e : Expr} {f : FE} {n x : Str} {p cpos pos pr p2 : Pos}
theorem ms_raiseK0 (R : RaiseOk0 X.prog X.w X.K X.mg X.base cs n) (hc : X.calm = true) (tk : Takes X fun c d _ H => E c d H) (ha : ME X E e f) (hg : Gl X n := by rfl) (hdb : (n == ("__debug__" : Str)) = false := by decide) (he : starEach [e] X.env = (false, eval e X.env) :: starEach [] X.env := by rfl) (hpl : (backTo cpos (starEach [] X.env)).any (·.1) = false := by rfl) :
    MS X E (.Raise (some (.Call (.Name n p) [e] [] cpos)) none pos) (sRaise0 (cs.C n) f) := by
  obtain ⟨t, pp, q⟩ := ha.ex
  refine ⟨_, ps_raise hc tk (SkE.pmk_own1 PySem.F.excBase_ValueError R.x R.g R.k (raises_own R.b R.t) hg pp (hs := he) (hdb := hdb)), fun sl σ w Dd o s h => ?_⟩
  refine q sl σ w _ o s (post_bndS h fun v d w1 o1 s1 r hp => ?_)
  exact hp none w1 rfl o1 (Step.refl _) rfl
theorem ms_tryON {body : List Stmt} {j : Nat} {np pos' : Pos} {g : FS} (Mo : ExmOk X.K X.mg cs x) (hb : ∀ (E' : XK) (pn : List (Addr × Obj)) (xe : Value → Shared → Prop), Takes (X.tr pn xe) (fun c d _ H => E' c d H) → MSs (X.tr pn xe) E' body g)
    (hs : X.stack = X.env :: X.outer := by rfl) (hf : X.env.frame = some X.env.locals := by rfl) (hg : Gl X x := by rfl) (hdb : (x == ("__debug__" : Str)) = false := by decide) :
    MS X E (.Try body [.ExceptHandler (some (.Name x np)) none [.Return (some (.Constant .none j p2)) pr] pos'] [] [] pos) (sTry (cs.exm x) g (xC .non)) := ms_tryO hs hf ⟨hg, hdb, .inl Mo.at_⟩ Mo.ok hb (fun _ => pe_non) fun _ _ => .non
theorem tbl2 {P : Program} {w : World} {K : PySem.W.Frag} {mg : Str → Option Value} {base : Heap} {k n : Nat} {a b : Addr} {m1 m2 g1 g2 : List D → Sto → MM D} (c1 : CalF P w K mg base k a n m1) (f1 : CallF K E n m1 g1) (c2 : CalF P w K mg base k b n m2) (f2 : CallF K E n m2 g2) :
    ∀ q ∈ [(a, g1), (b, g2)], ∃ m, CalF P w K mg base k q.1 n m ∧ CallF K E n m q.2 := fun q h => by
  rcases List.mem_cons.mp h with h | h
  · subst h; exact ⟨m1, c1, f1⟩
  · rcases List.mem_cons.mp h with h | h
    · subst h; exact ⟨m2, c2, f2⟩
    · cases h
end
end M

namespace M
open PySem PySem.Spec L2
section
variable {Q : D → Sto → Prop} {sl : Sl} {st : Sto} {N : Sl → Sto → Prop}
theorem en_gNm {i : Nat} {d : D} (h : N (sl.set i (some d)) st) : Ens (gNm i d sl st) N := ens_ret h
theorem en_gTp {n : Nat} {r : FGs} {ds : List D} (h : ds.length = n ∧ Ens (r ds sl st) N) : Ens (gTp n r (.tup ds) sl st) N := ens_ite h.1 h.2
theorem en_gsC {g : FG} {r : FGs} {d : D} {ds : List D} (h : Ens (g d sl st) fun sl st => Ens (r ds sl st) N) : Ens (gsCons g r (d :: ds) sl st) N := ens_bnd (h.imp fun _ _ q => q)
theorem en_gsN (h : N sl st) : Ens (gsNil [] sl st) N := ens_ret h
theorem en_tI {i : Nat} {g : FGs} {d d' : D} (h : Ens (gsCons (gNm i) g [d, d'] sl st) N) : Ens (gsCons (gNm i) g [d, d'] sl st) N := h
theorem en_addI {c : Bool} {i j : Int} (h : Q (.int (i + j)) st) : Ens (gAdd c st (.int i) (.int j)) Q := ens_ret h
theorem en_neg {i : Int} (h : Q (.int (-i)) st) : Ens (gNeg st (.int i)) Q := ens_ret h
theorem en_subI {i j : Int} (h : Q (.int (i - j)) st) : Ens (gSub st (.int i) (.int j)) Q := ens_ret h
theorem en_augI {f : Int → Int → D} {i j : Int} (h : Q (f i j) st) : Ens (gI0 f st (.int i) (.int j)) Q := ens_ret h
theorem en_cmpI {p : Int → Int → Bool} {q : List Nat → List Nat → Bool} {i j : Int} (h : Q (.bl (p i j)) st) : Ens (gCmp p q st (.int i) (.int j)) Q := ens_ret h
theorem en_eqI {i j : Int} (q : Q (.bl (decide (i = j))) st) : Ens (gEq st (.int i) (.int j)) Q := ens_eqI q
theorem en_neI {i j : Int} (q : Q (.bl (!decide (i = j))) st) : Ens (gNe st (.int i) (.int j)) Q := ens_neI q
theorem en_eqS {i j : Str} (q : Q (.bl (decide (i = j))) st) : Ens (gEq st (.str i) (.str j)) Q := by
  have e : decide (V.str i = V.str j) = decide (i = j) := by by_cases z : i = j <;> simp [z]
  rw [← e] at q
  exact ens_ret q
theorem en_neS {i j : Str} (q : Q (.bl (!decide (i = j))) st) : Ens (gNe st (.str i) (.str j)) Q := by
  have e : decide (V.str i = V.str j) = decide (i = j) := by by_cases z : i = j <;> simp [z]
  rw [← e] at q
  exact ens_ret q
theorem en_isN {x : D} {b : Bool} (e : isNon x = b) (q : Q (.bl b) st) : Ens (gIsN st x .non) Q := by subst e; exact ens_ret q
theorem en_isNT {x : D} (e : isNon x = true) (q : Q (.bl true) st) : Ens (gIsN st x .non) Q := en_isN e q
theorem en_isNF {x : D} (e : isNon x = false) (q : Q (.bl false) st) : Ens (gIsN st x .non) Q := en_isN e q
theorem en_notN {x : D} {b : Bool} (e : isNon x = b) (q : Q (.bl (!b)) st) : Ens (gNotN st x .non) Q := by subst e; exact ens_ret q
theorem en_notNT {x : D} (e : isNon x = false) (q : Q (.bl true) st) : Ens (gNotN st x .non) Q := en_notN e q
theorem en_notNF {x : D} (e : isNon x = true) (q : Q (.bl false) st) : Ens (gNotN st x .non) Q := en_notN e q
theorem en_lenL {ds : List D} (q : Q (.int ds.length) st) : Ens (cLen st [.lst ds]) Q := ens_ret q
theorem en_lenT {ds : List D} (q : Q (.int ds.length) st) : Ens (cLen st [.tup ds]) Q := ens_ret q
theorem en_lenS {x : Str} (h : x.length ≤ 10000000 ∧ Q (.int x.length) st) : Ens (cLen st [.str x]) Q := ens_ite (by have := h.1; unfold PySem.sizeLine; omega) (ens_ret h.2)
theorem en_listL {ds : List D} (q : Q (.lst ds) st) : Ens (cList false st [.lst ds]) Q := ens_ret q
theorem en_listC {ds : List D} (q : Q (.ptr st.length) (st ++ [some (.lst ds)])) : Ens (cList true st [.lst ds]) Q := ens_ret q
theorem en_int {i : Int} (q : Q (.int i) st) : Ens (cInt st [.int i]) Q := ens_ret q
theorem en_max2 {i j : Int} (q : Q (.int (if j > i then j else i)) st) : Ens (cMax2 st [.int i, .int j]) Q := ens_ret q
theorem en_min2 {i j : Int} (q : Q (.int (if j < i then j else i)) st) : Ens (cMin2 st [.int i, .int j]) Q := ens_ret q
theorem en_addS {c : Bool} {x y : Str} (h : x.length + y.length ≤ 10000000 ∧ Q (.str (x ++ y)) st) : Ens (gAdd c st (.str x) (.str y)) Q := ens_ite (by have := h.1; unfold PySem.sizeLine; omega) (ens_ret h.2)
theorem en_augS {x y : Str} (h : x.length + y.length ≤ 10000000 ∧ Q (.str (x ++ y)) st) : Ens (gAddS st (.str x) (.str y)) Q := ens_ite (by have := h.1; unfold PySem.sizeLine; omega) (ens_ret h.2)
theorem en_addL {ds es : List D} (h : ds.length + es.length ≤ 10000000 ∧ Q (.lst (ds ++ es)) st) : Ens (gAdd false st (.lst ds) (.lst es)) Q := ens_addL rfl rfl (by have := h.1; unfold PySem.sizeLine; omega) (ens_ret h.2)
theorem en_slS {c : Bool} {z : Str} {lo hi : Option Int} (h : z.length ≤ 10000000 ∧ Q (.str (cutS z lo hi)) st) : Ens (gSl c st (.str z) lo hi) Q := ens_ite (by have := h.1; unfold PySem.sizeLine; omega) (ens_ret h.2)
theorem en_slL {ds : List D} {lo hi : Option Int} (h : Q (.lst (cutD ds lo hi)) st) : Ens (gSl false st (.lst ds) lo hi) Q := ens_ret h
theorem en_ifE {g : FT} {f1 f2 : FE} (q : Ens (g sl st) fun b st => (b = true → Ens (f1 sl st) Q) ∧ (b = false → Ens (f2 sl st) Q)) : Ens (mIfE g f1 f2 sl st) Q := ens_bnd (q.imp fun _ _ q => ens_cond q.1 q.2)
theorem en_orV {f1 f2 : FE} (q : Ens (f1 sl st) fun x st => ∃ b, x = .bl b ∧ (b = true → Q (.bl true) st) ∧ (b = false → Ens (f2 sl st) Q)) : Ens (mOrV f1 f2 sl st) Q := ens_bnd (q.imp fun _ _ ⟨_, e, q⟩ => by subst e; exact ens_cond (fun e => ens_ret (q.1 e)) q.2)
theorem en_LCc {it : FA} {gt : FG} {tt : FT} {fe : FE} {vs : List Nat} (q : Ens (it sl st) fun ds st => Ens (lcL gt tt fe (wipeD sl vs) ds [] st) fun es st => Q (.ptr st.length) (st ++ [some (.lst es)])) : Ens (mLc true it gt tt fe vs sl st) Q := ens_bnd (q.imp fun _ _ q => ens_bnd (ens_noX (q.imp fun _ _ q => ens_ret q)))
theorem en_isiI (q : Q (.bl true) st) {i : Int} : Ens (gIsi "int" st (.int i)) Q := ens_ret q
def isiR (T : String) (st : Sto) (x : D) : Option Bool := match tyOf st x with
  | some n => kitB n T
  | none => none
theorem en_isiA {T : String} {x : D} {b : Bool} (e : isiR T st x = some b) (q : Q (.bl b) st) : Ens (gIsi T st x) Q := by
  unfold isiR at e
  unfold gIsi
  cases h : tyOf st x with
  | none => rw [h] at e; cases e
  | some n =>
    rw [h] at e
    have e : kitB n T = some b := e
    simp only [e]
    exact ens_ret q
theorem en_isiT {T : String} {x : D} (e : isiR T st x = some true) (q : Q (.bl true) st) : Ens (gIsi T st x) Q := en_isiA e q
theorem en_isiF {T : String} {x : D} (e : isiR T st x = some false) (q : Q (.bl false) st) : Ens (gIsi T st x) Q := en_isiA e q
theorem en_both {b : Bool} {A B : Prop} (hA : b = true → A) (hB : b = false → B) : (b = true → A) ∧ (b = false → B) := ⟨hA, hB⟩
theorem en_T {A B : Prop} (h : A) : (true = true → A) ∧ (true = false → B) := ⟨fun _ => h, fun z => (by cases z)⟩
theorem en_F {A B : Prop} (h : B) : (false = true → A) ∧ (false = false → B) := ⟨fun z => (by cases z), fun _ => h⟩
theorem en_nT {A B : Prop} (h : B) : ((!true) = true → A) ∧ ((!true) = false → B) := ⟨fun z => (by cases z), fun _ => h⟩
theorem en_nF {A B : Prop} (h : A) : ((!false) = true → A) ∧ ((!false) = false → B) := ⟨fun _ => h, fun z => (by cases z)⟩
theorem en_rf {α : Type} {i : α} {d : Decidable (i = i)} {A B : Prop} (h : A) : (@decide (i = i) d = true → A) ∧ (@decide (i = i) d = false → B) := ⟨fun _ => h, fun z => absurd rfl (of_decide_eq_false z)⟩
theorem en_nrf {α : Type} {i : α} {d : Decidable (i = i)} {A B : Prop} (h : B) : ((!@decide (i = i) d) = true → A) ∧ ((!@decide (i = i) d) = false → B) := ⟨fun z => absurd (decide_eq_true (p := i = i) rfl) (by simp at z), fun _ => h⟩
theorem en_DIn {f1 f2 : FE} (q : Ens (f1 sl st) fun y st => Ens (f2 sl st) fun x st => ∃ r, dGet st x y = some r ∧ Q (.bl (!r.isSome)) st) : Ens (mDIn true f1 f2 sl st) Q := ens_bnd (q.imp fun _ _ q => ens_bnd (q.imp fun _ _ ⟨_, e, q⟩ => by simp only [e]; exact ens_ret q))
theorem en_R2 {g : FA} {P : List D → Sto → Prop} (q : Ens (g sl st) fun ds st => ∃ i j : Int, ds = [.int i, .int j] ∧ (-(2 ^ 62) ≤ i ∧ i < 2 ^ 62 ∧ -(2 ^ 62) ≤ j ∧ j < 2 ^ 62) ∧ P (rngD i (j - i).toNat) st) : Ens (iR2 g sl st) P := ens_bnd (q.imp fun _ _ ⟨_, _, e, c, q⟩ => by subst e; exact ens_ite c (ens_ret q))
theorem en_R3 {g : FA} {P : List D → Sto → Prop} (q : Ens (g sl st) fun ds st => ∃ i j : Int, ds = [.int i, .int j, .int (-1)] ∧ (-(2 ^ 62) ≤ i ∧ i < 2 ^ 62 ∧ -(2 ^ 62) ≤ j ∧ j < 2 ^ 62) ∧ P (rngM i (i - j).toNat) st) : Ens (iR3 g sl st) P := ens_bnd (q.imp fun _ _ ⟨_, _, e, c, q⟩ => by subst e; exact ens_ite ⟨rfl, c⟩ (ens_ret q))
theorem en_ty {T : String} {x : D} {P : Prop} (e : tyOk T st x = true) (h : P) : tyOk T st x = true ∧ P := ⟨e, h⟩
theorem ens_insert {i : Nat} {ds : List D} {k : Int} {y : D} (e : st[i]? = some (some (.lst ds))) (h : ds.length ≤ 1000000) (h0 : 0 ≤ k) (h1 : k < 2 ^ 63) (q : Q .non (st.set i (some (.lst (insD ds k y))))) : Ens (gInsert st (.ptr i) [.int k, y]) Q := by
  have e2 : cellL st i = some ds := by unfold cellL; rw [e]
  show Ens (match cellL st i with
    | some ds => if ds.length < sizeLine ∧ 0 ≤ k ∧ k < 2 ^ 63 then putL i (insD ds k y) .non st else none
    | none => none) Q
  rw [e2]
  exact ens_ite ⟨by unfold PySem.sizeLine; omega, h0, h1⟩ (ens_ret q)
theorem en_1000 {n : Nat} {P : Prop} (e : Nat.ble n 1000 = true) (h : P) : n ≤ 1000 ∧ P := ⟨Nat.le_of_ble_eq_true e, h⟩
theorem en_retN {R : D → Sto → Prop} (h : R .non st) : EnsS (sRetN sl st) N R := ens_ret h
end
end M
namespace M
open PySem PySem.Spec L2
section
variable {N : Sl → Sto → Prop} {R : D → Sto → Prop} {X : Exn → Prop} {sl : Sl} {st : Sto}
theorem EnsZ.imp2 {τ : Type} {m : MM τ} {Q Q' : τ → Sto → Prop} {X X' : Exn → Prop} (h : EnsZ m Q X) (k : ∀ x st, Q x st → Q' x st) (kx : ∀ e, X e → X' e) : EnsZ m Q' X' := by
  match m, h with
  | some (.ok x st), h => exact k _ _ h
  | some (.exc e st), h => exact kx _ h
theorem ez_ret {f : Fl} {Q : Fl → Sto → Prop} (h : Q f st) : EnsZ (M.ret f st) Q X := h
theorem ez_for {tg : FG} {body : FS} (I : Nat → Sl → Sto → Prop) : ∀ (ds : List D) (i : Nat) {sl : Sl} {st : Sto}, I i sl st →
    (∀ (j : Nat) d sl st, ds[j]? = some d → I (i + j) sl st → Ens (tg d sl st) fun sl st => EnsZS (body sl st) (I (i + j + 1)) R X) → (∀ sl st, I (i + ds.length) sl st → N sl st) → EnsZS (forL tg body ds sl st) N R X
  | [], i, sl, st, h0, hs, hd => hd sl st h0
  | d :: ds, i, sl, st, h0, hs, hd => by
    have rest : ∀ sl2 st2, I (i + 1) sl2 st2 → EnsZS (forL tg body ds sl2 st2) N R X := fun sl2 st2 h => ez_for I ds (i + 1) h (fun j d' sl st e hI => by
      have e1 : i + 1 + j = i + (j + 1) := by omega
      rw [e1] at hI ⊢
      exact hs (j + 1) d' sl st e hI) (fun sl st hI => hd sl st (by
      have e1 : i + (d :: ds).length = i + 1 + ds.length := by rw [List.length_cons]; omega
      rw [e1]; exact hI))
    obtain ⟨sl1, st1, e1, h1⟩ := hs 0 d sl st rfl h0
    show EnsZS (bnd (tg d sl st) _) N R X
    rw [e1]
    show EnsZ (bnd (body sl1 st1) _) _ X
    refine ez_bnd (EnsZ.imp (m := body sl1 st1) h1 fun f st2 h2 => ?_)
    cases f with
    | nx sl2 => exact rest sl2 st2 h2
    | ct sl2 => exact h2.elim
    | bk sl2 => exact h2.elim
    | rt d2 => exact h2
theorem ez_for0 {tg : FG} {body : FS} (I : Nat → Sl → Sto → Prop) {ds : List D} {sl : Sl} {st : Sto} (h0 : I 0 sl st)
    (hs : ∀ (j : Nat) d sl st, ds[j]? = some d → I j sl st → Ens (tg d sl st) fun sl st => EnsZS (body sl st) (I (j + 1)) R X) (hd : ∀ sl st, I ds.length sl st → N sl st) : EnsZS (forL tg body ds sl st) N R X :=
  ez_for I ds 0 h0 (fun j d sl st e h => by
    rw [Nat.zero_add] at h ⊢
    exact hs j d sl st e h) (fun sl st h => hd sl st (by rw [Nat.zero_add] at h; exact h))
theorem ez_FOR {it : FA} {tg : FG} {body : FS} (q : Ens (it sl st) fun ds st => EnsZS (forL tg body ds sl st) N R X) : EnsZS (sFor it tg body sl st) N R X := by
  obtain ⟨ds, s, e, q⟩ := q
  show EnsZS (bnd (it sl st) _) N R X
  rw [e]
  exact q
theorem en_while {c : FT} {body : FS} (I : Nat → Sl → Sto → Prop) (hs : ∀ m sl st, I m sl st → Ens (c sl st) fun b st => (b = true → EnsS (body sl st) (fun sl st => ∃ k, k < m ∧ I k sl st) R) ∧ (b = false → N sl st)) : ∀ (n m : Nat) {sl : Sl} {st : Sto}, m < n → I m sl st → EnsS (whileN c body n sl st) N R
  | 0, m, _, _, h, _ => by omega
  | n + 1, m, sl, st, h, i => by
    refine ens_bnd ((hs m sl st i).imp fun b st1 q => ens_cond (fun e => ens_bnd ((q.1 e).imp fun f st2 h2 => ?_)) fun e => ens_ret (q.2 e))
    cases f with
    | nx sl2 =>
      obtain ⟨k, hk, hi⟩ := h2
      exact en_while I hs n k (by omega) hi
    | ct sl2 => exact h2.elim
    | bk sl2 => exact h2.elim
    | rt d2 => exact ens_ret h2
/-- a def that may raise, its answer caught -/
theorem ens_try {exm : Addr → Bool} {g : FS} {h : FX} (q : EnsZS (g sl st) N R fun e => exm e.C = true ∧ ∃ d, h e = some d ∧ ∀ st, R d st) : EnsS (sTry exm g h sl st) N R := by
  unfold sTry
  unfold EnsZS at q
  match hm : g sl st, q with
  | some (.ok f s), q => exact ⟨f, s, rfl, q⟩
  | some (.exc e s), q =>
    obtain ⟨h1, d, h2, h3⟩ := q
    show EnsS (if exm e.C = true then lift ((h e).map .rt) s else none) N R
    rw [if_pos h1, h2]
    exact ens_ret (h3 s)
/-! comprehensions -/
theorem lc_inv {gt : FG} {tt : FT} {fe : FE} {sl : Sl} (I : Nat → List D → Sto → Prop) : ∀ (ds : List D) (k : Nat) (es : List D) (st : Sto) {Q : List D → Sto → Prop}, I k es st → es.length + ds.length ≤ 1000000 →
    (∀ (j : Nat) d es st, ds[j]? = some d → I (k + j) es st → Ens (gt d sl st) fun sl2 st => Ens (tt sl2 st) fun b st => (b = true → Ens (fe sl2 st) fun y st => I (k + j + 1) (es ++ [y]) st) ∧ (b = false → I (k + j + 1) es st)) →
    (∀ es st, I (k + ds.length) es st → Q es st) → Ens (lcL gt tt fe sl ds es st) Q
  | [], k, es, st, Q, h0, _, _, hd => ens_ret (hd es st h0)
  | d :: r, k, es, st, Q, h0, hl, hs, hd => by
    rw [List.length_cons] at hl
    have go : ∀ es st, es.length + r.length ≤ 1000000 → I (k + 1) es st → Ens (lcL gt tt fe sl r es st) Q := fun es st hl h => lc_inv I r (k + 1) es st h hl (fun j d es st e h => by
      have e1 : k + 1 + j = k + (j + 1) := by omega
      rw [e1] at h ⊢
      exact hs (j + 1) d es st e h) fun es st h => hd es st (by
      have e1 : k + (d :: r).length = k + 1 + r.length := by rw [List.length_cons]; omega
      rw [e1]; exact h)
    refine ens_bnd ((hs 0 d es st rfl h0).imp fun sl2 st2 h => ens_bnd (h.imp fun b st3 h => ens_cond (fun e => ?_) fun e => go es st3 (by omega) (h.2 e)))
    exact ens_bnd ((h.1 e).imp fun y st4 h => ens_ite (by unfold PySem.sizeLine; omega) (go _ st4 (by rw [List.length_append, List.length_singleton]; omega) h))
theorem lc_pure {gt : FG} {tt : FT} {fe : FE} {sl : Sl} {st : Sto} (p : D → Bool) (F : D → D) (ds : List D) (hl : ds.length ≤ 1000000)
    (h : ∀ d ∈ ds, Ens (gt d sl st) fun sl2 s => Ens (tt sl2 s) fun b s => (b = true → p d = true ∧ Ens (fe sl2 s) fun y s => y = F d ∧ s = st) ∧ (b = false → p d = false ∧ s = st)) {Q : List D → Sto → Prop} (q : Q ((ds.filter p).map F) st) : Ens (lcL gt tt fe sl ds [] st) Q := by
  refine lc_inv (fun k es s => s = st ∧ es = ((ds.take k).filter p).map F) ds 0 [] st ⟨rfl, by simp⟩ (by simpa using hl) (fun j d es s e hI => ?_) fun es s hI => ?_
  · rw [Nat.zero_add] at hI ⊢
    obtain ⟨rfl, rfl⟩ := hI
    refine (h d (List.mem_of_getElem? e)).imp fun sl2 s h => h.imp fun b s h => ⟨fun hb => ?_, fun hb => ?_⟩
    · obtain ⟨hp, h⟩ := h.1 hb
      refine h.imp fun y s h => ⟨h.2, ?_⟩
      rw [h.1, List.take_succ, e, List.filter_append, List.map_append]
      simp [hp]
    · obtain ⟨hp, hs⟩ := h.2 hb
      refine ⟨hs, ?_⟩
      rw [List.take_succ, e, List.filter_append, List.map_append]
      simp [hp]
  · rw [Nat.zero_add] at hI
    obtain ⟨rfl, rfl⟩ := hI
    rw [List.take_length]
    exact q
theorem en_yes {sl : Sl} {st : Sto} {B : Bool → Sto → Prop} (h : B true st) : Ens (tYesD sl st) B := ens_ret h
end
end M

namespace G
open PySem PySem.Spec L2 M
/-- one step of a plain run -/
local macro_rules | `(tactic| walk_at "es") => `(tactic| first
  | with_reducible apply ens_seq
  | with_reducible apply ens_asg
  | with_reducible apply ens_retS
  | with_reducible apply ens_drop
  | with_reducible apply ens_ifS
  | with_reducible apply ens_next
  | ((with_reducible apply ens_var); exact rfl)
  | with_reducible apply ens_C
  | with_reducible apply ens_bin
  | with_reducible apply ens_un
  | with_reducible apply ens_CB
  | with_reducible apply ens_call
  | with_reducible apply ens_nil
  | with_reducible apply ens_cons
  | (with_reducible apply ens_tup)
  | (with_reducible apply ens_lst)
  | (with_reducible apply ens_lstC)
  | with_reducible apply ens_BM
  | with_reducible apply ens_BM0
  | with_reducible apply ens_NP
  | with_reducible apply ens_PA
  | with_reducible apply ens_SL
  | with_reducible apply ens_DG
  | with_reducible apply ens_DG2
  | with_reducible apply ens_DI
  | with_reducible apply en_DIn
  | with_reducible apply ens_KE
  | with_reducible apply ens_MD
  | with_reducible apply ens_NK
  | with_reducible apply ens_NT
  | with_reducible apply ens_B
  | with_reducible apply ens_TR
  | with_reducible apply ens_AND
  | with_reducible apply ens_OR
  | with_reducible apply ens_NOT
  | with_reducible apply ens_ANDV
  | with_reducible apply ens_NOTV
  | with_reducible apply en_orV
  | with_reducible apply en_ifE
  | with_reducible apply ens_LC
  | with_reducible apply en_LCc
  | with_reducible apply ens_FOR
  | with_reducible apply ens_R1
  | with_reducible apply en_R2
  | with_reducible apply en_R3
  | with_reducible apply ens_IA
  | with_reducible apply ens_IE
  | with_reducible apply ens_IES
  | ((with_reducible apply ens_AUG); exact rfl)
  | with_reducible apply ens_PAR
  | ((with_reducible apply ens_FRZ); exact rfl)
  | with_reducible apply ens_DP
  | with_reducible apply ens_CH
  | with_reducible apply en_retN
  | with_reducible apply en_gNm
  | ((with_reducible apply en_gTp); refine ⟨rfl, ?_⟩)
  | with_reducible apply en_gsC
  | with_reducible apply en_gsN
  | with_reducible apply en_addI
  | with_reducible apply en_subI
  | with_reducible apply en_neg
  | with_reducible apply en_augI
  | with_reducible apply en_cmpI
  | with_reducible apply en_eqI
  | with_reducible apply en_neI
  | with_reducible apply en_eqS
  | with_reducible apply en_neS
  | ((with_reducible apply en_isiT); · exact rfl)
  | ((with_reducible apply en_isiF); · exact rfl)
  | ((with_reducible apply en_isNT); · exact rfl)
  | ((with_reducible apply en_isNF); · exact rfl)
  | ((with_reducible apply en_notNT); · exact rfl)
  | ((with_reducible apply en_notNF); · exact rfl)
  | with_reducible apply en_lenL
  | with_reducible apply en_lenT
  | with_reducible apply en_listL
  | with_reducible apply en_listC
  | with_reducible apply en_int
  | with_reducible apply en_max2
  | with_reducible apply en_min2
  | with_reducible apply en_slL
  | with_reducible apply en_T
  | with_reducible apply en_F
  | with_reducible apply en_nT
  | with_reducible apply en_nF
  | with_reducible apply en_rf
  | with_reducible apply en_nrf
  | with_reducible refine en_1000 rfl ?_
  | ((with_reducible apply en_ty); · exact rfl)
  | refine ⟨_, rfl, ?_⟩)
section
open PySem PySem.Spec L2 M
variable {st : Sto}
theorem iDs_last {xs : List Int} (h : xs ≠ []) : ∃ v, (iDs xs)[(iDs xs).length - 1]? = some (.int v) := by
  unfold iDs
  rw [List.length_map, List.getElem?_map]
  have : xs.length - 1 < xs.length := by
    have := List.length_pos_iff.mpr h
    omega
  rw [List.getElem?_eq_getElem this]
  exact ⟨_, rfl⟩
theorem cut_iDs (xs : List Int) (lo hi : Option Int) : ∃ ys, cutD (iDs xs) lo hi = iDs ys ∧ ys.length ≤ xs.length := by
  unfold cutD iDs
  rw [List.length_map, ← List.map_drop, ← List.map_take]
  exact ⟨_, rfl, by rw [List.length_take, List.length_drop]; omega⟩
theorem iDs_mem {xs : List Int} {j : Nat} {d : D} (h : (iDs xs)[j]? = some d) : ∃ v, d = .int v ∧ j < xs.length ∧ xs[j]? = some v := by
  rw [iDs_get] at h
  cases e : xs[j]? with
  | none => rw [e] at h; cases h
  | some v =>
    rw [e] at h; cases h
    refine ⟨v, rfl, ?_, rfl⟩
    by_cases z : j < xs.length
    · exact z
    · rw [List.getElem?_eq_none (by omega)] at e; cases e
theorem atI_in {α : Type} {ds : List α} {v : Int} (h0 : 0 ≤ v) (h1 : v < ds.length) : ∃ d, d ∈ ds ∧ atI ds v = some d := by
  obtain ⟨n, rfl⟩ := Int.eq_ofNat_of_zero_le h0
  have hn : n < ds.length := by omega
  exact ⟨ds[n], List.getElem_mem hn, at_nat (List.getElem?_eq_getElem hn)⟩
theorem idx_lt {α : Type} {ds : List α} {j : Nat} {d : α} (h : ds[j]? = some d) : j < ds.length := by
  by_cases z : j < ds.length
  · exact z
  · rw [List.getElem?_eq_none (by omega)] at h; cases h
theorem rng_lt {lo : Int} {n j : Nat} {d : D} (h : (rngD lo n)[j]? = some d) : j < n ∧ d = .int (lo + (j : Int)) := by
  have := idx_lt h
  unfold rngD at this h
  rw [List.length_map, List.length_range] at this
  rw [List.getElem?_map, List.getElem?_range this] at h
  cases h
  exact ⟨this, rfl⟩
theorem to_eq {τ : Type} {m : MM τ} {x : τ} {st : Sto} (h : Ens m fun y s => y = x ∧ s = st) : m = ret x st := by
  obtain ⟨y, s, e, rfl, rfl⟩ := h
  exact e
section
variable {κ : Type} [DecidableEq κ]
theorem look_mem {G : List (κ × D)} {k : κ} {d : D} (h : lookD G k = some d) : (k, d) ∈ G := by
  unfold lookD at h
  cases e : G.find? fun kv => decide (kv.1 = k) with
  | none => rw [e] at h; cases h
  | some kv =>
    rw [e] at h
    have h1 := List.find?_some e
    have h2 := List.mem_of_find?_eq_some e
    cases h
    obtain ⟨a, b⟩ := kv
    have h1 : a = k := of_decide_eq_true h1
    subst h1; exact h2
theorem look_ex {G : List (κ × D)} {k : κ} (h : ∃ d, (k, d) ∈ G) : ∃ d, lookD G k = some d := by
  obtain ⟨d, h⟩ := h
  unfold lookD
  cases e : G.find? fun kv => decide (kv.1 = k) with
  | none =>
    rw [List.find?_eq_none] at e
    exact absurd (decide_eq_true rfl) (e _ h)
  | some kv => exact ⟨_, rfl⟩
theorem put_mem {G : List (κ × D)} {k : κ} {d : D} {kv : κ × D} (h : kv ∈ putD G k d) : kv ∈ G ∨ kv = (k, d) := by
  unfold putD at h
  by_cases z : (G.any fun kv => decide (kv.1 = k)) = true
  · rw [if_pos z, List.mem_map] at h
    obtain ⟨x, hx, e⟩ := h
    by_cases q : x.1 = k
    · rw [if_pos q] at e; rw [← e, q]; exact .inr rfl
    · rw [if_neg q] at e; rw [← e]; exact .inl hx
  · rw [if_neg z, List.mem_append, List.mem_singleton] at h
    exact h
theorem put_len {G : List (κ × D)} {k : κ} {d : D} : (putD G k d).length ≤ G.length + 1 := by
  unfold putD
  by_cases z : (G.any fun kv => decide (kv.1 = k)) = true
  · rw [if_pos z, List.length_map]; omega
  · rw [if_neg z, List.length_append]; exact Nat.le_refl _
theorem put_ne {G : List (κ × D)} {k : κ} {d : D} : putD G k d ≠ [] := by
  unfold putD
  by_cases z : (G.any fun kv => decide (kv.1 = k)) = true
  · rw [if_pos z]
    intro e
    rw [List.map_eq_nil_iff] at e
    subst e; cases z
  · rw [if_neg z]; simp
end
theorem dput_str {st : Sto} {i : Nat} {G : List (Key × D)} {s : Str} {v : D} (e : cellK st i = some G) (h : G.length < sizeLine) : dPut st (.ptr i) (.str s) v = some (st.set i (some (.dct (putD G (.inr s) v)))) := by
  show (match cellK st i, some (Sum.inr s) with
    | some ds, some k => if ds.length < sizeLine then some (st.set i (some (.dct (putD ds k v)))) else none
    | _, _ => none) = _
  rw [e]
  exact if_pos h
theorem dput_two {st : Sto} {i : Nat} {G : List (List Key × D)} {s t : Str} {v : D} (e : cellT st i = some G) (h : G.length < sizeLine) : dPut st (.ptr i) (.tup [.str s, .str t]) v = some (st.set i (some (.dcT (putD G [.inr s, .inr t] v)))) := by
  show (match cellT st i, some [Sum.inr s, Sum.inr t] with
    | some ds, some k => if ds.length < sizeLine then some (st.set i (some (.dcT (putD ds k v)))) else none
    | _, _ => none) = _
  rw [e]
  exact if_pos h
theorem sortOk_str {ds : List D} (h : ∀ d ∈ ds, ∃ s, d = .str s) : sortOk ds = true := by
  unfold sortOk
  rw [Bool.and_eq_true, Bool.and_eq_true, Bool.or_eq_true]
  refine ⟨⟨?_, ?_⟩, .inr ?_⟩
  · rw [List.all_eq_true]; intro d m
    obtain ⟨s, rfl⟩ := h d m
    rfl
  · rw [List.all_eq_true]; intro d m
    rw [List.all_eq_true]; intro e n
    obtain ⟨s, rfl⟩ := h d m
    obtain ⟨t, rfl⟩ := h e n
    rfl
  · rw [List.all_eq_true]; intro d m
    obtain ⟨s, rfl⟩ := h d m
    rfl
theorem sortOk_two {ds : List D} (h : ∀ d ∈ ds, ∃ s t, d = .tup [.str s, .str t]) : sortOk ds = true := by
  unfold sortOk
  rw [Bool.and_eq_true, Bool.and_eq_true, Bool.or_eq_true]
  refine ⟨⟨?_, ?_⟩, .inl ?_⟩
  · rw [List.all_eq_true]; intro d m
    obtain ⟨s, t, rfl⟩ := h d m
    rfl
  · rw [List.all_eq_true]; intro d m
    rw [List.all_eq_true]; intro e n
    obtain ⟨s, t, rfl⟩ := h d m
    obtain ⟨u, v, rfl⟩ := h e n
    rfl
  · rw [List.all_eq_true]; intro d m
    obtain ⟨s, t, rfl⟩ := h d m
    rfl
theorem sort_mem {ds : List D} {d : D} (h : d ∈ ds.mergeSort leD) : d ∈ ds := (List.mergeSort_perm ds leD).mem_iff.mp h
theorem chr_str {x : Str} {j : Nat} {d : D} (h : (chrD x)[j]? = some d) : ∃ s, d = .str s := by
  unfold chrD at h
  rw [List.getElem?_map] at h
  cases e : x.cps.toList[j]? with
  | none => rw [e] at h; cases h
  | some c => rw [e] at h; cases h; exact ⟨_, rfl⟩
def shortS : D → Bool
  | .str s => decide (s.length ≤ sizeLine) && PyData.strOk s
  | _ => false
theorem short_of {ds : List D} {j : Nat} {d : D} (h : ds.all shortS = true) (e : ds[j]? = some d) : ∃ s, d = .str s ∧ s.length ≤ sizeLine ∧ PyData.strOk s = true := by
  have m := List.mem_of_getElem? e
  rw [List.all_eq_true] at h
  have := h d m
  cases d with
  | str s =>
    have h2 : (decide (s.length ≤ sizeLine) && PyData.strOk s) = true := this
    rw [Bool.and_eq_true] at h2
    exact ⟨s, rfl, of_decide_eq_true h2.1, h2.2⟩
  | _ => cases this
theorem pfs_strs (ks : List Str) : pfs (ks.map D.str) = true := by
  induction ks with
  | nil => rfl
  | cons k r ih => rw [List.map_cons, pfs, ih]; rfl
theorem join_some {g : Sl → Option D} {gs : List (Sl → Option D)} {acc y : Str} {sl : Sl} (h : g sl = some (.str y)) (hl : acc.length + y.length ≤ 1000000) (r : ∀ a : Str, a.length = acc.length + y.length → (joinD gs a sl).isSome = true) : (joinD (g :: gs) acc sl).isSome = true := by
  have e : (acc ++ y).length = acc.length + y.length := by rw [← T_len, T_app, List.length_append, T_len, T_len]
  simp only [joinD, h]
  rw [if_pos (by rw [e]; unfold PySem.sizeLine; omega)]
  exact r _ e
theorem small_num : ∀ n : Fin 201, (Str.ofString (toString (n.val : Int))).length ≤ 10 ∧ ((n.val : Int)).natAbs.log2 < 1920 := by decide +kernel
theorem sum_len : ∀ ys : List Str, (ys.map (·.length)).sum = (ys.map T).flatten.length
  | [] => rfl
  | y :: r => by rw [List.map_cons, List.sum_cons, List.map_cons, List.flatten_cons, List.length_append, T_len, sum_len r]
def chs (l : List Nat) : List D := l.map fun c => .str (U [c])
theorem lc_chars {tt : FT} {sl : Sl} {st : Sto} {j : Nat} {f : Nat → Bool} (hj : j < sl.length) (ht : ∀ c, tt (sl.set j (some (.str (U [c])))) st = M.ret (f c) st) : ∀ (l : List Nat) (es : List D), es.length + l.length ≤ 1000000 → ∀ {Q : List D → Sto → Prop}, Q (es ++ chs (l.filter f)) st → Ens (lcL (gNm j) tt (mVar j) sl (chs l) es st) Q
  | [], es, _, Q, q => ens_ret (by simpa [chs] using q)
  | c :: r, es, h, Q, q => by
    rw [List.length_cons] at h
    show Ens (bnd (tt (sl.set j (some (.str (U [c])))) st) fun b st => cond b (bnd (mVar j (sl.set j (some (.str (U [c])))) st) fun y st => if es.length < sizeLine then lcL (gNm j) tt (mVar j) sl (chs r) (es ++ [y]) st else none) (lcL (gNm j) tt (mVar j) sl (chs r) es st)) Q
    rw [ht]
    show Ens (cond (f c) _ _) Q
    have hv : gv (sl.set j (some (.str (U [c])))) j = some (.str (U [c])) := by
      unfold gv
      rw [List.getElem?_set_self hj]
    refine ens_cond (fun h1 => ?_) fun h1 => ?_
    · refine ens_bnd (ens_var hv (ens_ite (by unfold PySem.sizeLine; omega) ?_))
      refine lc_chars hj ht r _ (by rw [List.length_append, List.length_singleton]; omega) ?_
      rw [List.filter_cons_of_pos h1] at q
      rw [List.append_assoc]
      exact q
    · refine lc_chars hj ht r es (by omega) ?_
      rw [List.filter_cons_of_neg (by rw [h1]; exact Bool.false_ne_true)] at q
      exact q
theorem strsOf_map : ∀ ys : List Str, strsOf (ys.map D.str) = some ys
  | [] => rfl
  | y :: r => by
    show (match D.str y, strsOf (r.map D.str) with
      | .str i, some is => some (i :: is)
      | _, _ => none) = _
    rw [strsOf_map r]
theorem ens_join {ys : List Str} {Q : D → Sto → Prop} (h : (ys.map T).flatten.length ≤ 1000000) (q : ∀ x : Str, T x = (ys.map T).flatten → Q (.str x) st) : Ens (gJoin st (.str "") [.lst (ys.map .str)]) Q := by
  show Ens (match strsOf (ys.map D.str) with
    | some ys => if (ys.map (·.length)).sum + ys.length * (Str.ofString "").length ≤ 16777216 then M.ret (.str (Txt.join "" ys)) st else none
    | none => none) Q
  rw [strsOf_map]
  have e0 : (Str.ofString "").length = 0 := rfl
  refine ens_ite (by rw [sum_len, e0]; omega) (ens_ret (q _ ?_))
  rw [T_joinT]
  show glue [] _ = _
  rw [glue_nil]
theorem chs_flat : ∀ l : List Nat, ((l.map fun c => U [c]).map T).flatten = l
  | [] => rfl
  | c :: r => by
    rw [List.map_cons, List.map_cons, List.flatten_cons, chs_flat r, T_one]; rfl
theorem ens_joinC {l : List Nat} {Q : D → Sto → Prop} (h : l.length ≤ 1000000) (q : Q (.str (U l)) st) : Ens (gJoin st (.str "") [.lst (chs l)]) Q := by
  have e : chs l = (l.map fun c => U [c]).map D.str := by unfold chs; rw [List.map_map]; rfl
  rw [e]
  refine ens_join (by rw [chs_flat]; exact h) fun x ex => ?_
  rw [show x = U l from T_inj (by rw [ex, chs_flat, T_U])]
  exact q
theorem ens_inC {n : Bool} {c : Nat} {z : Str} {Q : D → Sto → Prop} (q : Q (.bl (ng n (decide (c ∈ z.cps.toList)))) st) : Ens (gIn n st (.str (U [c])) (.str z)) Q := ens_ret q
theorem ens_ixS {x : Str} {i : Nat} {c : Nat} {Q : D → Sto → Prop} (hx : x.length ≤ 1000000) (h : (T x)[i]? = some c) (q : Q (.str (U [c])) st) : Ens (gIx st (.str x) (.int (i : Int))) Q := by
  show Ens (if x.length ≤ sizeLine then lift ((atI x.cps.toList (i : Int)).map fun c => .str ⟨#[c]⟩) st else none) Q
  refine ens_ite (by unfold PySem.sizeLine; omega) ?_
  rw [show atI x.cps.toList (i : Int) = some c from at_nat h]
  exact ens_ret q
theorem cut_1 (z : Str) : T (cutS z none (some 1)) = (T z).take 1 := by
  rw [T_cut]
  show ((T z).drop 0).take (min 1 (T z).length - 0) = _
  rw [List.drop_zero, Nat.sub_zero]
  cases T z with
  | nil => rfl
  | cons a r => simp
theorem cut_2 (z : Str) : T (cutS z (some 1) none) = (T z).drop 1 := by
  rw [T_cut]
  show ((T z).drop (min 1 (T z).length)).take ((T z).length - min 1 (T z).length) = _
  cases T z with
  | nil => rfl
  | cons a r =>
    have : min 1 (a :: r).length = 1 := by simp
    rw [this]
    simp
theorem cut_3 (z : Str) : T (cutS z (some (-1)) none) = (T z).drop ((T z).length - 1) := by
  rw [T_cut]
  have e : HT.sIx (T z).length 0 (some (-1)) = (T z).length - 1 := by
    show ((-1 : Int) + ((T z).length : Int)).toNat = _
    omega
  rw [e]
  show ((T z).drop ((T z).length - 1)).take ((T z).length - ((T z).length - 1)) = _
  rw [List.take_of_length_le]
  rw [List.length_drop]; omega
theorem cut_4 (z : Str) : T (cutS z none (some (-1))) = (T z).take ((T z).length - 1) := by
  rw [T_cut]
  have e : HT.sIx (T z).length (T z).length (some (-1)) = (T z).length - 1 := by
    show ((-1 : Int) + ((T z).length : Int)).toNat = _
    omega
  rw [e]
  show ((T z).drop 0).take ((T z).length - 1 - 0) = _
  rw [List.drop_zero, Nat.sub_zero]
theorem eq_U {x : Str} {l : List Nat} : x = U l ↔ T x = l := ⟨fun h => by rw [h, T_U], fun h => T_inj (by rw [h, T_U])⟩
theorem ens_glS {c : Bool} {z : Str} {lo hi : Option Int} {Q : D → Sto → Prop} (h : z.length ≤ 1000000) (q : Q (.str (cutS z lo hi)) st) : Ens (gSl c st (.str z) lo hi) Q := ens_ite (by unfold PySem.sizeLine; omega) (ens_ret q)
def oS (l : List Nat) : D := if l = [] then .non else .str (U l)
theorem filt_len (f : Nat → Bool) (l : List Nat) : (l.filter f).length ≤ l.length := List.length_filter_le _ _
theorem ens_ixLast {x : Str} {c : Nat} {Q : D → Sto → Prop} (hx : x.length ≤ 1000000) (h : (T x)[(T x).length - 1]? = some c) (q : Q (.str (U [c])) st) : Ens (gIx st (.str x) (.int (-1))) Q := by
  show Ens (if x.length ≤ sizeLine then lift ((atI x.cps.toList (-1)).map fun c => .str ⟨#[c]⟩) st else none) Q
  refine ens_ite (by unfold PySem.sizeLine; omega) ?_
  rw [show atI x.cps.toList (-1) = some c from at_last h]
  exact ens_ret q
theorem U_eq {a b : Nat} : U [a] = U [b] ↔ a = b := by rw [eq_U, T_one]; simp
theorem inV_str (k : Str) : ∀ ks : List Str, inV (V.str k) (ks.map V.str) = decide (k ∈ ks)
  | [] => rfl
  | a :: r => by
    have ih := inV_str k r
    unfold inV at ih ⊢
    rw [List.map_cons, List.any_cons, ih]
    show ((a == k) || _) = _
    by_cases h : a = k
    · subst h; simp
    · have h2 : k ≠ a := fun z => h z.symm
      have : (a == k) = false := by simpa using h
      rw [this]
      simp [h2]
theorem scDs_str : ∀ ks : List Str, scDs (ks.map D.str) = some (ks.map V.str)
  | [] => rfl
  | a :: r => by
    show (match scD (.str a), scDs (r.map D.str) with
      | some v, some vs => some (v :: vs)
      | _, _ => none) = _
    rw [scDs_str r]; rfl
theorem ens_inL {n : Bool} {d : D} {k : Str} {ks : List Str} {Q : D → Sto → Prop} (h : lstOf st d = some (ks.map .str)) (q : Q (.bl (ng n (decide (k ∈ ks)))) st) : Ens (gIn n st (.str k) d) Q := by
  have main : Ens (match seqD st d, scD (.str k) with
    | some ds, some v => match scDs ds with
      | some vs => M.ret (.bl (ng n (inV v vs))) st
      | none => none
    | _, _ => none) Q → Ens (gIn n st (.str k) d) Q := fun z => by
    cases d with
    | str _ => cases h
    | _ => exact z
  have e : seqD st d = some (ks.map .str) := by
    cases d with
    | tup _ => cases h
    | _ => exact h
  refine main ?_
  rw [e]
  show Ens (match scDs (ks.map D.str) with
    | some vs => M.ret (.bl (ng n (inV (V.str k) vs))) st
    | none => none) Q
  rw [scDs_str]
  show Ens (M.ret (.bl (ng n (inV (V.str k) (ks.map V.str)))) st) Q
  rw [inV_str]
  exact ens_ret q
theorem py_strs {L : List D} (h : ∀ d ∈ L, ∃ s, d = D.str s ∧ PyData.strOk s = true) : ∃ xs, pys L = some xs ∧ PyData.canLayAll0 xs = true ∧ PyData.depthAll xs = 0 := by
  induction L with
  | nil => exact ⟨[], by rw [pys], by rw [PyData.canLayAll0], by rw [PyData.depthAll]⟩
  | cons d r ih =>
    obtain ⟨xs, e, h1, h2⟩ := ih fun x m => h x (List.mem_cons_of_mem _ m)
    obtain ⟨s, rfl, o⟩ := h d List.mem_cons_self
    refine ⟨.str s :: xs, by rw [pys, py, e], ?_, ?_⟩
    · rw [PyData.canLayAll0, PyData.canLay0, o, h1]; rfl
    · rw [PyData.depthAll, h2, PyData.depth.eq_7]; rfl
end
section
open PySem PySem.Spec L2 M
section
variable {κ : Type} [DecidableEq κ]
theorem find_map {G : List (κ × D)} {k t : κ} {d : D} : (G.map fun kv => if kv.1 = k then (kv.1, d) else kv).find? (fun kv => decide (kv.1 = t)) = (G.find? fun kv => decide (kv.1 = t)).map fun kv => if kv.1 = k then (kv.1, d) else kv := by
  induction G with
  | nil => rfl
  | cons x r ih =>
    have e : ((if x.1 = k then (x.1, d) else x) : κ × D).1 = x.1 := by split <;> rfl
    rw [List.map_cons, List.find?_cons, List.find?_cons, e]
    cases decide (x.1 = t) with
    | true => rfl
    | false => exact ih
theorem look_put {G : List (κ × D)} {k t : κ} {d : D} : lookD (putD G k d) t = if t = k then some d else lookD G t := by
  unfold putD lookD
  by_cases z : (G.any fun kv => decide (kv.1 = k)) = true
  · rw [if_pos z, find_map]
    by_cases q : t = k
    · subst q
      rw [if_pos rfl]
      rw [List.any_eq_true] at z
      obtain ⟨x, m, e⟩ := z
      cases f : G.find? fun kv => decide (kv.1 = t) with
      | none =>
        rw [List.find?_eq_none] at f
        exact absurd e (f x m)
      | some y =>
        have := List.find?_some f
        simp only [decide_eq_true_eq] at this
        simp only [Option.map_some, this, if_true]
    · rw [if_neg q]
      cases f : G.find? fun kv => decide (kv.1 = t) with
      | none => rfl
      | some y =>
        have := List.find?_some f
        simp only [decide_eq_true_eq] at this
        have n : ¬ y.1 = k := fun e => q (this.symm.trans e)
        simp only [Option.map_some, n, if_false]
  · rw [if_neg z, List.find?_append]
    by_cases q : t = k
    · subst q
      rw [if_pos rfl]
      have f : G.find? (fun kv => decide (kv.1 = t)) = none := by
        rw [List.find?_eq_none]
        intro x m e
        exact z (List.any_eq_true.mpr ⟨x, m, e⟩)
      rw [f]; simp
    · rw [if_neg q]
      have : ¬ k = t := fun e => q e.symm
      cases f : G.find? fun kv => decide (kv.1 = t) with
      | none => simp [this]
      | some y => simp
end
abbrev Gl := List (Key × D)
abbrev Kl := List (List Key × D)
def has (G : Gl) (s : Str) : Prop := (lookD G (.inr s)).isSome = true
theorem has_put {G : Gl} {s t : Str} {d : D} : has (putD G (.inr s) d) t ↔ t = s ∨ has G t := by
  unfold has
  rw [look_put]
  by_cases z : t = s
  · subst z; simp
  · have : ¬ (Sum.inr t : Key) = Sum.inr s := fun e => z (by cases e; rfl)
    rw [if_neg this]; simp [z]
def nm7 : List Str := (T "abfil-.").map fun c => U [c]
def ligs : List Str := ["ff", "fi", "fl", "ab", "li", "--", "ffi", "ffl", "aba", "lil", "ffif", "abab"]
def softS : Str := "-\n"
def nms : List Str := nm7 ++ ligs ++ [softS]
def GEnt (kv : Key × D) : Prop := ∃ s, ∃ w h p : Int, kv = (.inr s, .tup [.int w, .int h, .int p]) ∧ s ∈ nms ∧ 1 ≤ w ∧ w ≤ 100000 ∧ 0 ≤ h ∧ h ≤ 100000 ∧ 0 ≤ p ∧ p ≤ 100000
def KEnt (G : Gl) (kv : List Key × D) : Prop := ∃ a b, ∃ v : Int, kv = ([.inr a, .inr b], .int v) ∧ has G a ∧ has G b ∧ -100000 ≤ v ∧ v ≤ 0 ∧ ∀ w h p : Int, lookD G (.inr a) = some (.tup [.int w, .int h, .int p]) → 1 ≤ w + v
structure FontOk (G : Gl) (N : Kl) : Prop where
  ent : ∀ kv ∈ G, GEnt kv
  len : G.length ≤ 20
  chars : ∀ s ∈ nm7, has G s
  beg : ∀ s ∈ ligs, has G s → has G (cutS s none (some (-1)))
  soft : has G softS
  ker : ∀ kv ∈ N, KEnt G kv
  klen : N.length ≤ 11
abbrev fontD (nm : Str) (G : Gl) (N : Kl) : D := .tup [.str "font", .str nm, .dct G, .dcT N]
theorem ent_put {G : Gl} {kv : Key × D} (h : ∀ kv ∈ G, GEnt kv) (e : GEnt kv) : ∀ x ∈ putD G kv.1 kv.2, GEnt x := fun x m => by
  rcases put_mem m with m | rfl
  · exact h x m
  · exact e
theorem ker_put {G : Gl} {N : Kl} {kv : List Key × D} (h : ∀ kv ∈ N, KEnt G kv) (e : KEnt G kv) : ∀ x ∈ putD N kv.1 kv.2, KEnt G x := fun x m => by
  rcases put_mem m with m | rfl
  · exact h x m
  · exact e
theorem has_ent {G : Gl} (h : ∀ kv ∈ G, GEnt kv) {s : Str} (x : has G s) : ∃ w h p : Int, lookD G (.inr s) = some (.tup [.int w, .int h, .int p]) ∧ s ∈ nms ∧ 1 ≤ w ∧ w ≤ 100000 ∧ 0 ≤ h ∧ h ≤ 100000 ∧ 0 ≤ p ∧ p ≤ 100000 := by
  unfold has at x
  cases e : lookD G (.inr s) with
  | none => rw [e] at x; cases x
  | some d =>
    obtain ⟨s', w, hh, p, e2, m⟩ := h _ (look_mem e)
    cases e2
    exact ⟨w, hh, p, rfl, m⟩
theorem ent_pf {G : Gl} (h : ∀ kv ∈ G, GEnt kv) : pfk G = true := by
  induction G with
  | nil => rfl
  | cons kv r ih =>
    obtain ⟨s, w, hh, p, rfl, _⟩ := h kv List.mem_cons_self
    rw [pfk, ih fun x m => h x (List.mem_cons_of_mem _ m)]; rfl
theorem ker_pf {G : Gl} {N : Kl} (h : ∀ kv ∈ N, KEnt G kv) : pft N = true := by
  induction N with
  | nil => rfl
  | cons kv r ih =>
    obtain ⟨a, b, v, rfl, _⟩ := h kv List.mem_cons_self
    rw [pft, ih fun x m => h x (List.mem_cons_of_mem _ m)]; rfl
theorem font_pf {nm : Str} {G : Gl} {N : Kl} (h : FontOk G N) : pf (fontD nm G N) = true := by
  simp only [pf, pfs, ent_pf h.ent, ker_pf h.ker]; rfl
/-! repr -/
theorem int_short {i : Int} (h : i.natAbs ≤ 200000) : (PyData.int i).leavesShort 13 = true ∧ (PyData.int i).showable = true ∧ (PyData.int i).weight ≤ 19 := by
  refine ⟨?_, ?_, ?_⟩
  · rw [PyData.leavesShort]
    exact decide_eq_true (PyData.shown_int_le (by omega))
  · rw [PyData.showable]
    refine decide_eq_true ?_
    have : i.natAbs.log2 < 18 ∨ i.natAbs = 0 := by
      by_cases z : i.natAbs = 0
      · exact .inr z
      · left
        rw [Nat.log2_lt z]
        have : (2 : Nat) ^ 18 = 262144 := by decide
        omega
    rcases this with z | z
    · omega
    · rw [z]; decide
  · rw [PyData.weight]
    split
    · omega
    · rename_i z
      have z : i.natAbs ≠ 0 := fun e => z (by simp; omega)
      have : i.natAbs.log2 < 18 := by
        rw [Nat.log2_lt z]
        have : (2 : Nat) ^ 18 = 262144 := by decide
        omega
      omega
def strShort (s : Str) : Prop := s.length ≤ 40 ∧ ∀ c ∈ T s, c < 1000
theorem str_short {s : Str} (h : strShort s) : (PyData.str s).leavesShort 13 = true ∧ (PyData.str s).showable = true ∧ (PyData.str s).weight ≤ 40 := by
  refine ⟨?_, by rw [PyData.showable], by rw [PyData.weight]; exact h.1⟩
  rw [PyData.leavesShort, List.all_eq_true]
  intro c m
  have := h.2 c m
  exact decide_eq_true (Nat.lt_trans this (by decide))
/-- what a table of small things keeps -/
def RK (kvs : List (PyData × PyData)) (n : Nat) : Prop := PyData.leavesShortKv 13 kvs = true ∧ PyData.showableKv kvs = true ∧ PyData.weightKv kvs ≤ n ∧ PyData.depthKv kvs ≤ 1 ∧ noLsK kvs = true
theorem rk_nil : RK [] 0 := ⟨rfl, rfl, Nat.le_refl _, Nat.zero_le _, rfl⟩
theorem rk_ent {kvs : List (PyData × PyData)} {n : Nat} {s : Str} {w h p : Int} (hs : strShort s) (hw : w.natAbs ≤ 200000) (hh : h.natAbs ≤ 200000) (hp : p.natAbs ≤ 200000) (r : RK kvs n) : RK ((.str s, .tuple [.int w, .int h, .int p]) :: kvs) (n + 110) := by
  obtain ⟨a1, a2, a3⟩ := str_short hs
  obtain ⟨b1, b2, b3⟩ := int_short hw
  obtain ⟨c1, c2, c3⟩ := int_short hh
  obtain ⟨d1, d2, d3⟩ := int_short hp
  obtain ⟨r1, r2, r3, r4, r5⟩ := r
  refine ⟨?_, ?_, ?_, ?_, ?_⟩
  · simp only [PyData.leavesShortKv, a1, r1, Bool.and_true, Bool.true_and]
    rw [PyData.leavesShort]
    simp only [PyData.leavesShortAll, b1, c1, d1, Bool.and_self]
  · simp only [PyData.showableKv, a2, r2, Bool.and_true, Bool.true_and]
    rw [PyData.showable]
    simp only [PyData.showableAll, b2, c2, d2, Bool.and_self]
  · have e : (PyData.tuple [.int w, .int h, .int p]).weight = PyData.weightAll [.int w, .int h, .int p] := by rw [PyData.weight]
    simp only [PyData.weightKv, e, PyData.weightAll]
    omega
  · simp only [PyData.depthKv, PyData.depth, PyData.depthAll]
    omega
  · simp only [noLsK, noLs, noLsA, r5, Bool.and_self]
theorem rk_ker {kvs : List (PyData × PyData)} {n : Nat} {s t : Str} {v : Int} (hs : strShort s) (ht : strShort t) (hv : v.natAbs ≤ 200000) (r : RK kvs n) : RK ((.tuple [.str s, .str t], .int v) :: kvs) (n + 110) := by
  obtain ⟨a1, a2, a3⟩ := str_short hs
  obtain ⟨b1, b2, b3⟩ := str_short ht
  obtain ⟨c1, c2, c3⟩ := int_short hv
  obtain ⟨r1, r2, r3, r4, r5⟩ := r
  refine ⟨?_, ?_, ?_, ?_, ?_⟩
  · simp only [PyData.leavesShortKv, c1, r1, Bool.and_true]
    rw [PyData.leavesShort]
    simp only [PyData.leavesShortAll, a1, b1, Bool.and_self]
  · simp only [PyData.showableKv, c2, r2, Bool.and_true]
    rw [PyData.showable]
    simp only [PyData.showableAll, a2, b2, Bool.and_self]
  · have e : (PyData.tuple [.str s, .str t]).weight = PyData.weightAll [.str s, .str t] := by rw [PyData.weight]
    simp only [PyData.weightKv, e, PyData.weightAll]
    omega
  · simp only [PyData.depthKv, PyData.depth, PyData.depthAll]
    omega
  · simp only [noLsK, noLs, noLsA, r5, Bool.and_self]
theorem nms_short : ∀ s ∈ nms, strShort s := by
  have h : nms.all (fun s => decide (s.length ≤ 40) && (T s).all fun c => decide (c < 1000)) = true := by decide +kernel
  intro s m
  rw [List.all_eq_true] at h
  have := h s m
  rw [Bool.and_eq_true, List.all_eq_true] at this
  exact ⟨of_decide_eq_true this.1, fun c mc => of_decide_eq_true (this.2 c mc)⟩
/-- G whose names are short -/
def GShort (G : Gl) : Prop := ∀ kv ∈ G, ∃ s, ∃ w h p : Int, kv = (.inr s, .tup [.int w, .int h, .int p]) ∧ strShort s ∧ w.natAbs ≤ 200000 ∧ h.natAbs ≤ 200000 ∧ p.natAbs ≤ 200000
def KShort (N : Kl) : Prop := ∀ kv ∈ N, ∃ a b, ∃ v : Int, kv = ([.inr a, .inr b], .int v) ∧ strShort a ∧ strShort b ∧ v.natAbs ≤ 200000
theorem rk_G : ∀ {G : Gl}, GShort G → ∃ xs, dqk G = some xs ∧ RK ((G.map fun p => keyPy p.1).zip xs) (110 * G.length)
  | [], _ => ⟨[], by rw [dqk], rk_nil⟩
  | kv :: r, h => by
    obtain ⟨s, w, hh, p, rfl, hs, a, b, c⟩ := h kv List.mem_cons_self
    obtain ⟨xs, e, k⟩ := rk_G fun x m => h x (List.mem_cons_of_mem _ m)
    refine ⟨.tuple [.int w, .int hh, .int p] :: xs, by rw [dqk, dq, e]; simp only [dqs, dq, Option.map_some], ?_⟩
    have := rk_ent hs a b c k
    rw [List.length_cons, Nat.mul_succ]
    exact this
theorem rk_N : ∀ {N : Kl}, KShort N → ∃ xs, dqt N = some xs ∧ RK ((N.map fun p => .tuple (p.1.map keyPy)).zip xs) (110 * N.length)
  | [], _ => ⟨[], by rw [dqt], rk_nil⟩
  | kv :: r, h => by
    obtain ⟨s, t, v, rfl, hs, ht, hv⟩ := h kv List.mem_cons_self
    obtain ⟨xs, e, k⟩ := rk_N fun x m => h x (List.mem_cons_of_mem _ m)
    refine ⟨.int v :: xs, by rw [dqt, dq, e], ?_⟩
    have := rk_ker hs ht hv k
    rw [List.length_cons, Nat.mul_succ]
    exact this
theorem font_repr {nm : Str} {G : Gl} {N : Kl} (hn : strShort nm) (hG : GShort G) (hN : KShort N) (lG : G.length ≤ 1000) (lN : N.length ≤ 1000) : ∃ x, dq (fontD nm G N) = some x ∧ reprOk x = true := by
  obtain ⟨xs, e1, a1, a2, a3, a4, a5⟩ := rk_G hG
  obtain ⟨ys, e2, b1, b2, b3, b4, b5⟩ := rk_N hN
  obtain ⟨c1, c2, c3⟩ := str_short hn
  have hf : strShort "font" := ⟨by decide, by decide⟩
  obtain ⟨d1, d2, d3⟩ := str_short hf
  refine ⟨.tuple [.str "font", .str nm, .dict ((G.map fun p => keyPy p.1).zip xs), .dict ((N.map fun p => .tuple (p.1.map keyPy)).zip ys)], ?_, ?_⟩
  · simp only [dq, dqs, e1, e2, Option.map_some]
  generalize hA : ((G.map fun p => keyPy p.1).zip xs) = A at *
  generalize hB : ((N.map fun p => PyData.tuple (p.1.map keyPy)).zip ys) = B at *
  have l1 : (PyData.dict A).leavesShort 13 = true := by rw [PyData.leavesShort]; exact a1
  have l2 : (PyData.dict B).leavesShort 13 = true := by rw [PyData.leavesShort]; exact b1
  have s1 : (PyData.dict A).showable = true := by rw [PyData.showable]; exact a2
  have s2 : (PyData.dict B).showable = true := by rw [PyData.showable]; exact b2
  have w1 : (PyData.dict A).weight = PyData.weightKv A := by rw [PyData.weight]
  have w2 : (PyData.dict B).weight = PyData.weightKv B := by rw [PyData.weight]
  have ls : (PyData.tuple [.str "font", .str nm, .dict A, .dict B]).leavesShort 13 = true := by
    rw [PyData.leavesShort]
    simp only [PyData.leavesShortAll, c1, d1, l1, l2, Bool.and_self]
  have wt : (PyData.tuple [.str "font", .str nm, .dict A, .dict B]).weight ≤ 300000 := by
    rw [PyData.weight]
    simp only [PyData.weightAll, w1, w2]
    omega
  have sh := PyData.shown_le 13 (by decide) _ ls
  unfold reprOk
  simp only [Bool.and_eq_true, Bool.or_eq_true, decide_eq_true_eq]
  refine ⟨⟨⟨.inr ?_, ?_⟩, by omega⟩, ?_⟩
  · simp only [noLs, noLsA, a5, b5, Bool.and_self]
  · rw [PyData.showable]
    simp only [PyData.showableAll, c2, d2, s1, s2, Bool.and_self]
  · simp only [PyData.depth, PyData.depthAll]
    omega
theorem FontOk.shortG {G : Gl} {N : Kl} (h : FontOk G N) : GShort G := fun kv m => by
  obtain ⟨s, w, hh, p, e, ms, _⟩ := h.ent kv m
  exact ⟨s, w, hh, p, e, nms_short s ms, by omega, by omega, by omega⟩
theorem FontOk.shortN {G : Gl} {N : Kl} (h : FontOk G N) : KShort N := fun kv m => by
  obtain ⟨a, b, v, e, ha, hb, v0, v1, _⟩ := h.ker kv m
  obtain ⟨_, _, _, _, ma, _⟩ := has_ent h.ent ha
  obtain ⟨_, _, _, _, mb, _⟩ := has_ent h.ent hb
  exact ⟨a, b, v, e, nms_short a ma, nms_short b mb, by omega⟩
end
open PySem PySem.Spec L2 M
def top (i : Nat) : Stmt := PySem.Challenge.pw_galleypapers_k70_edits_of_documents.main.body.getD i (.Pass ⟨0, 0, 0, 0⟩)
structure Tx (P : Program) (w : World) (K : PySem.W.Frag) (mg : Str → Option Value) (base : Heap) (cs : Cs) : Prop where
  z_len : mg "len" = none
  z_min : mg "min" = none
  z_list : mg "list" = none
  z_int : mg "int" = none
  z_isinstance : mg "isinstance" = none
  z_tuple : mg "tuple" = none
  z_range : mg "range" = none
  z_all : mg "all" = none
  z_str : mg "str" = none
  z_bool : mg "bool" = none
  z_repr : mg "repr" = none
  z_max : mg "max" = none
  r_EditError : RaiseOk0 P w K mg base cs "EditError"
  x_EditError : ExmOk K mg cs "EditError"
  v_applied : mg "applied" = some (.ref (cs.C "applied"))
  v_inverse : mg "inverse" = some (.ref (cs.C "inverse"))
section
variable {P : Program} {w : World} {K : PySem.W.Frag} {mg : Str → Option Value} {base : Heap} {cs : Cs}
abbrev s_removed_blocks : Stmt := top 4
theorem sc_removed_blocks : FnScope ["document", "edit", "_", "at", "removed"] ["document", "edit"] (defScope s_removed_blocks) := ⟨rfl, rfl, rfl, by decide +kernel, rfl, by decide +kernel, by decide +kernel⟩
def b_removed_blocks (cs : Cs) : FS :=
    (sSeq (sAsg (mVar 1) (gTp 4 (gsCons (gNm 2) (gsCons (gNm 3) (gsCons (gNm 4) (gsCons (gNm 2) gsNil))))))
    (sSeq (sIf (mOr (mB (mBin gLt (mVar 3) (mC (.int 0)))) (mOr (mB (mBin gLt (mVar 4) (mC (.int 0)))) (mB (mBin gGt (mBin (gAdd false) (mVar 3) (mVar 4)) (mCB cLen (mCons (mVar 0) mNil))))))
    (sRaise0 (cs.C "EditError") (mJs [(mFmt (mVar 4)), (mC (.str " blocks from ")), (mFmt (mVar 3)), (mC (.str " on are not in a document of ")), (mFmt (mCB cLen (mCons (mVar 0) mNil))), (mC (.str " blocks"))] Str.empty))
    sNext)
    (sRet (mSl false (mVar 0) (mPart (mVar 3)) (mPart (mBin (gAdd false) (mVar 3) (mVar 4)))))))
def m_removed_blocks (cs : Cs) : List D → Sto → MM D := mDef 5 2 (b_removed_blocks cs)
theorem ok_removed_blocks {f : Addr} {fd : FuncData} (F : Fun K "_removed_blocks" "_removed_blocks" s_removed_blocks f fd) (T : Tx P w K mg base cs)  :
    FnOk P w K mg base (L2.CX P w) 3 f fd ["document", "edit"] (spM K 2 (m_removed_blocks cs)) :=
  fn_mX F sc_removed_blocks fun cdv A outer s H E hr =>
    have tk := takes_cx (P := P) (w := w) (K := K) (mg := mg) (base := base) (N := ["document", "edit", "_", "at", "removed"]) (qual := "_removed_blocks") (scope := defScope s_removed_blocks) (f := f) (cdv := cdv) (A := A) (outer := outer) (s := s) (H := H) (E := E)
    (mss_cons (ms_asg (me_var 1) (mg_tup rfl (mgs_cons (mg_name (i := 2) sc_removed_blocks.nd) (mgs_cons (mg_name (i := 3) sc_removed_blocks.nd) (mgs_cons (mg_name (i := 4) sc_removed_blocks.nd) (mgs_cons (mg_name (i := 2) sc_removed_blocks.nd) mgs_nil))))))
    (mss_cons (ms_if (MW.mt (mw_or (mt_cmp opr_lt rf_cmp (me_var 3) me_int (nomark _)) (mw_or (mt_cmp opr_lt rf_cmp (me_var 4) me_int (nomark _)) (mw_or1 (mt_cmp opr_gt rf_cmp (me_add false (me_var 3) (me_var 4)) (me_callB call_len rf_len T.z_len (by decide +kernel) (ma_cons (me_var 0) ma_nil)) (nomark _))))))
    (mss_one (ms_raiseK0 T.r_EditError rfl tk (me_joined (MJ.cons (me_fmt (me_var 4)) (MJ.cons me_str (MJ.cons (me_fmt (me_var 3)) (MJ.cons me_str (MJ.cons (me_fmt (me_callB call_len rf_len T.z_len (by decide +kernel) (ma_cons (me_var 0) ma_nil))) (MJ.cons me_str MJ.nil)))))))))
    mss_nil)
    (mss_one (ms_ret (me_sl false (me_var 0) (mo_some (me_var 3)) (mo_some (me_add false (me_var 3) (me_var 4))))))))
abbrev s_applied : Stmt := top 5
theorem sc_applied : FnScope ["document", "edit", "removed", "_", "at", "blocks"] ["document", "edit"] (defScope s_applied) := ⟨rfl, rfl, rfl, by decide +kernel, rfl, by decide +kernel, by decide +kernel⟩
def b_applied (cs : Cs) : FS :=
    (sSeq (sAsg (mCall (callB 2 (m_removed_blocks cs)) (mCons (mVar 0) (mCons (mVar 1) mNil))) (gNm 2))
    (sSeq (sAsg (mVar 1) (gTp 4 (gsCons (gNm 3) (gsCons (gNm 4) (gsCons (gNm 3) (gsCons (gNm 5) gsNil))))))
    (sRet (mBin (gAdd false) (mBin (gAdd false) (mSl false (mVar 0) mNoPart (mPart (mVar 4))) (mVar 5)) (mSl false (mVar 0) (mPart (mBin (gAdd false) (mVar 4) (mCB cLen (mCons (mVar 2) mNil)))) mNoPart)))))
def m_applied (cs : Cs) : List D → Sto → MM D := mDef 6 2 (b_applied cs)
theorem ok_applied {f : Addr} {fd : FuncData} (F : Fun K "applied" "applied" s_applied f fd) (T : Tx P w K mg base cs) (C_removed_blocks : CalX P w K mg base 3 "_removed_blocks" ["document", "edit"] (m_removed_blocks cs)) :
    FnOk P w K mg base (L2.CX P w) 4 f fd ["document", "edit"] (spM K 2 (m_applied cs)) :=
  fn_mX F sc_applied fun cdv A outer s H E hr =>
    have tk := takes_cx (P := P) (w := w) (K := K) (mg := mg) (base := base) (N := ["document", "edit", "removed", "_", "at", "blocks"]) (qual := "applied") (scope := defScope s_applied) (f := f) (cdv := cdv) (A := A) (outer := outer) (s := s) (H := H) (E := E)
    (mss_cons (ms_set (i := 2) sc_applied.nd (me_calX C_removed_blocks tk callf_B (hr.mono (by decide)) (ma_cons (me_var 0) (ma_cons (me_var 1) ma_nil))))
    (mss_cons (ms_asg (me_var 1) (mg_tup rfl (mgs_cons (mg_name (i := 3) sc_applied.nd) (mgs_cons (mg_name (i := 4) sc_applied.nd) (mgs_cons (mg_name (i := 3) sc_applied.nd) (mgs_cons (mg_name (i := 5) sc_applied.nd) mgs_nil))))))
    (mss_one (ms_ret (me_add false (me_add false (me_sl false (me_var 0) mo_none (mo_some (me_var 4))) (me_var 5)) (me_sl false (me_var 0) (mo_some (me_add false (me_var 4) (me_callB call_len rf_len T.z_len (by decide +kernel) (ma_cons (me_var 2) ma_nil)))) mo_none))))))
abbrev s_inverse : Stmt := top 6
theorem sc_inverse : FnScope ["document", "edit", "removed", "_", "at", "blocks"] ["document", "edit"] (defScope s_inverse) := ⟨rfl, rfl, rfl, by decide +kernel, rfl, by decide +kernel, by decide +kernel⟩
def b_inverse (cs : Cs) : FS :=
    (sSeq (sAsg (mCall (callB 2 (m_removed_blocks cs)) (mCons (mVar 0) (mCons (mVar 1) mNil))) (gNm 2))
    (sSeq (sAsg (mVar 1) (gTp 4 (gsCons (gNm 3) (gsCons (gNm 4) (gsCons (gNm 3) (gsCons (gNm 5) gsNil))))))
    (sRet (mTup (mCons (mC (.str "edit")) (mCons (mVar 4) (mCons (mCB cLen (mCons (mVar 5) mNil)) (mCons (mVar 2) mNil))))))))
def m_inverse (cs : Cs) : List D → Sto → MM D := mDef 6 2 (b_inverse cs)
theorem ok_inverse {f : Addr} {fd : FuncData} (F : Fun K "inverse" "inverse" s_inverse f fd) (T : Tx P w K mg base cs) (C_removed_blocks : CalX P w K mg base 3 "_removed_blocks" ["document", "edit"] (m_removed_blocks cs)) :
    FnOk P w K mg base (L2.CX P w) 4 f fd ["document", "edit"] (spM K 2 (m_inverse cs)) :=
  fn_mX F sc_inverse fun cdv A outer s H E hr =>
    have tk := takes_cx (P := P) (w := w) (K := K) (mg := mg) (base := base) (N := ["document", "edit", "removed", "_", "at", "blocks"]) (qual := "inverse") (scope := defScope s_inverse) (f := f) (cdv := cdv) (A := A) (outer := outer) (s := s) (H := H) (E := E)
    (mss_cons (ms_set (i := 2) sc_inverse.nd (me_calX C_removed_blocks tk callf_B (hr.mono (by decide)) (ma_cons (me_var 0) (ma_cons (me_var 1) ma_nil))))
    (mss_cons (ms_asg (me_var 1) (mg_tup rfl (mgs_cons (mg_name (i := 3) sc_inverse.nd) (mgs_cons (mg_name (i := 4) sc_inverse.nd) (mgs_cons (mg_name (i := 3) sc_inverse.nd) (mgs_cons (mg_name (i := 5) sc_inverse.nd) mgs_nil))))))
    (mss_one (ms_ret (me_tup (ma_cons me_str (ma_cons (me_var 4) (ma_cons (me_callB call_len rf_len T.z_len (by decide +kernel) (ma_cons (me_var 5) ma_nil)) (ma_cons (me_var 2) ma_nil)))))))))
abbrev s_equal_ahead : Stmt := top 8
theorem sc_equal_ahead : FnScope ["first", "second", "most", "many"] ["first", "second", "most"] (defScope s_equal_ahead) := ⟨rfl, rfl, rfl, by decide +kernel, rfl, by decide +kernel, by decide +kernel⟩
def b_equal_ahead : FS :=
    (sSeq (sAsg (mC (.int 0)) (gNm 3))
    (sSeq (whileN (mAnd (mB (mBin gLt (mVar 3) (mVar 2))) (mB (mBin (gEqD false) (mBin gIx (mVar 0) (mVar 3)) (mBin gIx (mVar 1) (mVar 3)))))
    (sAug 3 (mC (.int 1)) (gI0 fun i j => .int (i + j))) 1000000)
    (sRet (mVar 3))))
def m_equal_ahead : List D → Sto → MM D := mDef 4 3 b_equal_ahead
theorem ok_equal_ahead {f : Addr} {fd : FuncData} (F : Fun K "_equal_ahead" "_equal_ahead" s_equal_ahead f fd) (T : Tx P w K mg base cs)  :
    FnOk P w K mg base CX0 1 f fd ["first", "second", "most"] (spM K 3 m_equal_ahead) :=
  fn_m F sc_equal_ahead fun cdv A outer s H E E' hr =>
    (mss_cons (ms_set (i := 3) sc_equal_ahead.nd me_int)
    (mss_cons (ms_while 1000000 PassesOwn.never (MW.mt (mw_and (mt_cmp opr_lt rf_cmp (me_var 3) (me_var 2) (nomark _)) (mw_and1 (mt_cmp (op_eqD hr.units) (rf_eqD) (me_ix (me_var 0) (me_var 3)) (me_ix (me_var 1) (me_var 3)) (nomark _)))))
    (mss_one (ms_aug (i := 3) sc_equal_ahead.nd me_int ip_add rip_I)))
    (mss_one (ms_ret (me_var 3)))))
abbrev s_difference : Stmt := top 7
theorem sc_difference : FnScope ["old", "new", "most", "ahead", "behind"] ["old", "new"] (defScope s_difference) := ⟨rfl, rfl, rfl, by decide +kernel, rfl, by decide +kernel, by decide +kernel⟩
def b_difference : FS :=
    (sSeq (sAsg (mCB cMin2 (mCons (mCB cLen (mCons (mVar 0) mNil)) (mCons (mCB cLen (mCons (mVar 1) mNil)) mNil))) (gNm 2))
    (sSeq (sAsg (mCall (callB 3 m_equal_ahead) (mCons (mVar 0) (mCons (mVar 1) (mCons (mVar 2) mNil)))) (gNm 3))
    (sSeq (sAsg (mCall (callB 3 m_equal_ahead) (mCons (mRevL false (mVar 0)) (mCons (mRevL false (mVar 1)) (mCons (mBin M.gSub (mVar 2) (mVar 3)) mNil)))) (gNm 4))
    (sRet (mTup (mCons (mC (.str "edit")) (mCons (mVar 3) (mCons (mBin M.gSub (mBin M.gSub (mCB cLen (mCons (mVar 0) mNil)) (mVar 3)) (mVar 4)) (mCons (mSl false (mVar 1) (mPart (mVar 3)) (mPart (mBin M.gSub (mCB cLen (mCons (mVar 1) mNil)) (mVar 4)))) mNil)))))))))
def m_difference : List D → Sto → MM D := mDef 5 2 b_difference
theorem ok_difference {f : Addr} {fd : FuncData} (F : Fun K "difference" "difference" s_difference f fd) (T : Tx P w K mg base cs) (C_equal_ahead : Cal P w K mg base 1 "_equal_ahead" ["first", "second", "most"] m_equal_ahead) :
    FnOk P w K mg base CX0 2 f fd ["old", "new"] (spM K 2 m_difference) :=
  fn_m F sc_difference fun cdv A outer s H E E' hr =>
    (mss_cons (ms_set (i := 2) sc_difference.nd (me_callB (call_min2 rfl) rf_2I T.z_min (by decide +kernel) (ma_cons (me_callB call_len rf_len T.z_len (by decide +kernel) (ma_cons (me_var 0) ma_nil)) (ma_cons (me_callB call_len rf_len T.z_len (by decide +kernel) (ma_cons (me_var 1) ma_nil)) ma_nil))))
    (mss_cons (ms_set (i := 3) sc_difference.nd (me_cal C_equal_ahead callf_B (hr.mono (by decide)) (ma_cons (me_var 0) (ma_cons (me_var 1) (ma_cons (me_var 2) ma_nil)))))
    (mss_cons (ms_set (i := 4) sc_difference.nd (me_cal C_equal_ahead callf_B (hr.mono (by decide)) (ma_cons (me_revL false (me_var 0)) (ma_cons (me_revL false (me_var 1)) (ma_cons (me_sub (me_var 2) (me_var 3)) ma_nil)))))
    (mss_one (ms_ret (me_tup (ma_cons me_str (ma_cons (me_var 3) (ma_cons (me_sub (me_sub (me_callB call_len rf_len T.z_len (by decide +kernel) (ma_cons (me_var 0) ma_nil)) (me_var 3)) (me_var 4)) (ma_cons (me_sl false (me_var 1) (mo_some (me_var 3)) (mo_some (me_sub (me_callB call_len rf_len T.z_len (by decide +kernel) (ma_cons (me_var 1) ma_nil)) (me_var 4)))) ma_nil))))))))))
abbrev s_law_draws : Stmt := top 10
theorem sc_law_draws : FnScope ["script"] ["script"] (defScope s_law_draws) := ⟨rfl, rfl, rfl, by decide +kernel, rfl, by decide +kernel, by decide +kernel⟩
def b_law_draws : FS :=
    (sRet (mLst true (mCons (mCB (cList false) (mCons (mVar 0) mNil)) (mCons (mC (.int 0)) (mCons (mC (.int 0)) (mCons (mC (.int 1)) mNil))))))
def m_law_draws : List D → Sto → MM D := mDef 1 1 b_law_draws
theorem ok_law_draws {f : Addr} {fd : FuncData} (F : Fun K "_law_draws" "_law_draws" s_law_draws f fd) (T : Tx P w K mg base cs)  :
    FnOk P w K mg base CX0 1 f fd ["script"] (spM K 1 m_law_draws) :=
  fn_m F sc_law_draws fun cdv A outer s H E E' hr =>
    (mss_one (ms_ret (me_lst true (ma_cons (me_callTy call_list_of (rf_list false) T.z_list (by decide +kernel) (ma_cons (me_var 0) ma_nil)) (ma_cons me_int (ma_cons me_int (ma_cons me_int ma_nil)))))))
abbrev s_law_draw : Stmt := top 11
theorem sc_law_draw : FnScope ["draws", "limit", "cell", "value"] ["draws", "limit"] (defScope s_law_draw) := ⟨rfl, rfl, rfl, by decide +kernel, rfl, by decide +kernel, by decide +kernel⟩
def b_law_draw : FS :=
    (sSeq (sIf (mAnd (mB (mBin gEq (mBin gIx (mVar 0) (mC (.int 2))) (mC (.int 0)))) (mB (mBin gLt (mBin gIx (mVar 0) (mC (.int 1))) (mCB cLen (mCons (mBin gIx (mVar 0) (mC (.int 0))) mNil)))))
    (sSeq (sAsg (mBin gIx (mBin gIx (mVar 0) (mC (.int 0))) (mBin gIx (mVar 0) (mC (.int 1)))) (gNm 2))
    (sSeq (sAsg (mBin (gAdd false) (mBin gIx (mVar 0) (mC (.int 1))) (mC (.int 1))) (gSet (mVar 0) (mC (.int 1)) gSetL))
    (sSeq (sIf (mB (mBin gGe (mVar 2) (mBin M.gPow (mC (.int 10)) (mC (.int 18)))))
    (sAsg (mVar 2) (gSet (mVar 0) (mC (.int 2)) gSetL))
    sNext)
    (sAsg (mBin M.gMod (mCB cInt (mCons (mBin (gAdd false) (mBin (gAdd false) (mBin M.gMul (mBin gIx (mVar 0) (mC (.int 3))) (mC (.int 48271))) (mVar 2)) (mC (.int 13))) mNil)) (mC (.int 2147483647))) (gSet (mVar 0) (mC (.int 3)) gSetL)))))
    sNext)
    (sSeq (sIf (mB (mBin gGt (mBin gIx (mVar 0) (mC (.int 2))) (mC (.int 0))))
    (sSeq (sAsg (mBin M.gMod (mCB cInt (mCons (mBin gIx (mVar 0) (mC (.int 2))) mNil)) (mVar 1)) (gNm 3))
    (sSeq (sAsg (mBin M.gDiv (mBin gIx (mVar 0) (mC (.int 2))) (mVar 1)) (gSet (mVar 0) (mC (.int 2)) gSetL))
    (sRet (mVar 3))))
    sNext)
    (sSeq (sAsg (mBin M.gMod (mCB cInt (mCons (mBin (gAdd false) (mBin M.gMul (mBin gIx (mVar 0) (mC (.int 3))) (mC (.int 69621))) (mC (.int 7))) mNil)) (mC (.int 2147483629))) (gSet (mVar 0) (mC (.int 3)) gSetL))
    (sRet (mBin M.gMod (mCB cInt (mCons (mBin M.gDiv (mBin gIx (mVar 0) (mC (.int 3))) (mC (.int 11))) mNil)) (mVar 1))))))
def m_law_draw : List D → Sto → MM D := mDef 4 2 b_law_draw
theorem ok_law_draw {f : Addr} {fd : FuncData} (F : Fun K "_law_draw" "_law_draw" s_law_draw f fd) (T : Tx P w K mg base cs)  :
    FnOk P w K mg base CX0 1 f fd ["draws", "limit"] (spM K 2 m_law_draw) :=
  fn_m F sc_law_draw fun cdv A outer s H E E' hr =>
    (mss_cons (ms_if (MW.mt (mw_and (mt_cmp op_eq rf_eq (me_ix (me_var 0) me_int) me_int (nomark _)) (mw_and1 (mt_cmp opr_lt rf_cmp (me_ix (me_var 0) me_int) (me_callB call_len rf_len T.z_len (by decide +kernel) (ma_cons (me_ix (me_var 0) me_int) ma_nil)) (nomark _)))))
    (mss_cons (ms_set (i := 2) sc_law_draw.nd (me_ix (me_ix (me_var 0) me_int) (me_ix (me_var 0) me_int)))
    (mss_cons (ms_asg (me_add false (me_ix (me_var 0) me_int) me_int) (mg_sub (me_var 0) me_int set_list rf_setL))
    (mss_cons (ms_if (mt_cmp opr_ge rf_cmp (me_var 2) (me_pow me_int me_int) (nomark _))
    (mss_one (ms_asg (me_var 2) (mg_sub (me_var 0) me_int set_list rf_setL)))
    mss_nil)
    (mss_one (ms_asg (me_mod (me_callTy call_int1 rf_int T.z_int (by decide +kernel) (ma_cons (me_add false (me_add false (me_mul (me_ix (me_var 0) me_int) me_int) (me_var 2)) me_int) ma_nil)) me_int) (mg_sub (me_var 0) me_int set_list rf_setL))))))
    mss_nil)
    (mss_cons (ms_if (mt_cmp opr_gt rf_cmp (me_ix (me_var 0) me_int) me_int (nomark _))
    (mss_cons (ms_set (i := 3) sc_law_draw.nd (me_mod (me_callTy call_int1 rf_int T.z_int (by decide +kernel) (ma_cons (me_ix (me_var 0) me_int) ma_nil)) (me_var 1)))
    (mss_cons (ms_asg (me_div (me_ix (me_var 0) me_int) (me_var 1)) (mg_sub (me_var 0) me_int set_list rf_setL))
    (mss_one (ms_ret (me_var 3)))))
    mss_nil)
    (mss_cons (ms_asg (me_mod (me_callTy call_int1 rf_int T.z_int (by decide +kernel) (ma_cons (me_add false (me_mul (me_ix (me_var 0) me_int) me_int) me_int) ma_nil)) me_int) (mg_sub (me_var 0) me_int set_list rf_setL))
    (mss_one (ms_ret (me_mod (me_callTy call_int1 rf_int T.z_int (by decide +kernel) (ma_cons (me_div (me_ix (me_var 0) me_int) me_int) ma_nil)) (me_var 1)))))))
abbrev s_law_same : Stmt := top 12
theorem sc_law_same : FnScope ["actual", "expected", "k"] ["actual", "expected"] (defScope s_law_same) := ⟨rfl, rfl, rfl, by decide +kernel, rfl, by decide +kernel, by decide +kernel⟩
def b_law_same (self : List D → Sto → MM D) : FS :=
    (sSeq (sIf (mTru (mUn (gIsi2 "tuple" "list") (mVar 1)))
    (sSeq (sIf (mOr (mB (mBin gNe (mUn (gIsi "tuple") (mVar 0)) (mUn (gIsi "tuple") (mVar 1)))) (mB (mBin gNe (mUn (gIsi "list") (mVar 0)) (mUn (gIsi "list") (mVar 1)))))
    (sRet (mC (.bl false)))
    sNext)
    (sRet (mAndV (mBin gEq (mCB cLen (mCons (mVar 0) mNil)) (mCB cLen (mCons (mVar 1) mNil))) (mCB cAll (mCons (mLc false (iR1 (mCons (mCB cLen (mCons (mVar 1) mNil)) mNil)) (gNm 2) tYesD (mCall (callB 2 self) (mCons (mBin gIx (mVar 0) (mVar 2)) (mCons (mBin gIx (mVar 1) (mVar 2)) mNil))) [2]) mNil)))))
    sNext)
    (sSeq (sIf (mTru (mUn (gIsi "str") (mVar 1)))
    (sRet (mAndV (mUn (gIsi "str") (mVar 0)) (mBin gEq (mVar 0) (mVar 1))))
    sNext)
    (sSeq (sIf (mB (mBin gIsN (mVar 1) (mC .non)))
    (sRet (mBin gIsN (mVar 0) (mC .non)))
    sNext)
    (sSeq (sIf (mOr (mTru (mUn (gIsi "bool") (mVar 1))) (mTru (mUn (gIsi "bool") (mVar 0))))
    (sRet (mAndV (mUn (gIsi "bool") (mVar 1)) (mAndV (mUn (gIsi "bool") (mVar 0)) (mBin gEq (mVar 0) (mVar 1)))))
    sNext)
    (sRet (mAndV (mUn (gIsi "int") (mVar 0)) (mBin gEq (mVar 0) (mVar 1))))))))
def m_law_same : Nat → List D → Sto → MM D
  | 0 => fun _ _ => none
  | n + 1 => mDef 3 2 (b_law_same (m_law_same n))
theorem st_law_same {f : Addr} {fd : FuncData} (F : Fun K "_law_same" "_law_same" s_law_same f fd) (T : Tx P w K mg base cs)  {lev n : Nat} (hlev : 0 ≤ lev) (C_self : Cal P w K mg base lev "_law_same" ["actual", "expected"] (m_law_same n)) :
    FnOk P w K mg base CX0 (lev + 1) f fd ["actual", "expected"] (spM K 2 (m_law_same (n + 1))) :=
  fn_m F sc_law_same fun cdv A outer s H E E' hr =>
    (mss_cons (ms_if (mt_truth (me_isi2 T.z_isinstance T.z_tuple T.z_list (me_var 1)))
    (mss_cons (ms_if (MW.mt (mw_or (mt_cmp op_ne rf_ne (me_isi T.z_isinstance T.z_tuple (me_var 0)) (me_isi T.z_isinstance T.z_tuple (me_var 1)) (nomark _)) (mw_or1 (mt_cmp op_ne rf_ne (me_isi T.z_isinstance T.z_list (me_var 0)) (me_isi T.z_isinstance T.z_list (me_var 1)) (nomark _)))))
    (mss_one (ms_ret me_bl))
    mss_nil)
    (mss_one (ms_ret (me_and (me_cmp op_eq rf_eq (me_callB call_len rf_len T.z_len (by decide +kernel) (ma_cons (me_var 0) ma_nil)) (me_callB call_len rf_len T.z_len (by decide +kernel) (ma_cons (me_var 1) ma_nil)) (nomark _)) (me_one (me_callB (cr_all rfl) rf_all T.z_all (by decide +kernel) (ma_cons (me_lc (own := [("k", 2)]) (g := gName 2) (E' := E') false rfl sc_law_same.nd (mi_range1 (ma_cons (me_callB call_len rf_len T.z_len (by decide +kernel) (ma_cons (me_var 1) ma_nil)) ma_nil) T.z_range) (blkOk_by (own := [("k", 2)]) (N := ["actual", "expected", "k"]) (sc := defScope s_law_same) (by decide +kernel)) (fun _ _ _ _ _ => (pg_name (i := 2) sc_law_same.nd rfl (Or.inl rfl))) (rgw_name 2) (fun _ _ _ _ _ => (me_cal C_self callf_B (hr.mono (by omega)) (ma_cons (me_ix (me_var 0) (me_var 2)) (ma_cons (me_ix (me_var 1) (me_var 2)) ma_nil))))) ma_nil)))))))
    mss_nil)
    (mss_cons (ms_if (mt_truth (me_isi T.z_isinstance T.z_str (me_var 1)))
    (mss_one (ms_ret (me_and (me_isi T.z_isinstance T.z_str (me_var 0)) (me_one (me_cmp op_eq rf_eq (me_var 0) (me_var 1) (nomark _))))))
    mss_nil)
    (mss_cons (ms_if (mt_cmp op_isN rf_isN (me_var 1) me_non (nomark _))
    (mss_one (ms_ret (me_cmp op_isN rf_isN (me_var 0) me_non (nomark _))))
    mss_nil)
    (mss_cons (ms_if (MW.mt (mw_or (mt_truth (me_isi T.z_isinstance T.z_bool (me_var 1))) (mw_or1 (mt_truth (me_isi T.z_isinstance T.z_bool (me_var 0))))))
    (mss_one (ms_ret (me_and (me_isi T.z_isinstance T.z_bool (me_var 1)) (me_and (me_isi T.z_isinstance T.z_bool (me_var 0)) (me_one (me_cmp op_eq rf_eq (me_var 0) (me_var 1) (nomark _)))))))
    mss_nil)
    (mss_one (ms_ret (me_and (me_isi T.z_isinstance T.z_int (me_var 0)) (me_one (me_cmp op_eq rf_eq (me_var 0) (me_var 1) (nomark _))))))))))
theorem ok_law_same {f : Addr} {fd : FuncData} (F : Fun K "_law_same" "_law_same" s_law_same f fd) (T : Tx P w K mg base cs)  (hm : mg "_law_same" = some (.ref f)) (hk : PySem.W.keepIn K (.ref f) = true) (hb : Binds K fd ["actual", "expected"] []) : ∀ n, Cal P w K mg base (0 + n) "_law_same" ["actual", "expected"] (m_law_same n)
  | 0 => ⟨f, fd, fn_none, hm, hk, hb⟩
  | n + 1 => ⟨f, fd, st_law_same F T  (Nat.le_add_right _ _) (ok_law_same F T  hm hk hb n), hm, hk, hb⟩
abbrev s_law_block : Stmt := top 13
theorem sc_law_block : FnScope ["draws", "word"] ["draws"] (defScope s_law_block) := ⟨rfl, rfl, rfl, by decide +kernel, rfl, by decide +kernel, by decide +kernel⟩
def b_law_block : FS :=
    (sSeq (sAsg (mBin gIx (mLst false (mCons (mC (.str "a")) (mCons (mC (.str "b")) (mCons (mC (.str "c")) mNil)))) (mCall (callB 2 m_law_draw) (mCons (mVar 0) (mCons (mC (.int 3)) mNil)))) (gNm 1))
    (sRet (mBin gIx (mLst false (mCons (mTup (mCons (mC (.str "para")) (mCons (mLst false (mCons (mTup (mCons (mC (.str "text")) (mCons (mC (.str "text")) (mCons (mVar 1) mNil)))) mNil)) mNil))) (mCons (mTup (mCons (mC (.str "head")) (mCons (mC (.int 1)) (mCons (mLst false (mCons (mTup (mCons (mC (.str "text")) (mCons (mC (.str "text")) (mCons (mVar 1) mNil)))) mNil)) (mCons (mC (.str "")) mNil))))) (mCons (mTup (mCons (mC (.str "page")) mNil)) (mCons (mTup (mCons (mC (.str "contents")) mNil)) mNil))))) (mCall (callB 2 m_law_draw) (mCons (mVar 0) (mCons (mC (.int 4)) mNil))))))
def m_law_block : List D → Sto → MM D := mDef 2 1 b_law_block
theorem ok_law_block {f : Addr} {fd : FuncData} (F : Fun K "_law_block" "_law_block" s_law_block f fd) (T : Tx P w K mg base cs) (C_law_draw : Cal P w K mg base 1 "_law_draw" ["draws", "limit"] m_law_draw) :
    FnOk P w K mg base CX0 2 f fd ["draws"] (spM K 1 m_law_block) :=
  fn_m F sc_law_block fun cdv A outer s H E E' hr =>
    (mss_cons (ms_set (i := 1) sc_law_block.nd (me_ix (me_lst false (ma_cons me_str (ma_cons me_str (ma_cons me_str ma_nil)))) (me_cal C_law_draw callf_B (hr.mono (by decide)) (ma_cons (me_var 0) (ma_cons me_int ma_nil)))))
    (mss_one (ms_ret (me_ix (me_lst false (ma_cons (me_tup (ma_cons me_str (ma_cons (me_lst false (ma_cons (me_tup (ma_cons me_str (ma_cons me_str (ma_cons (me_var 1) ma_nil)))) ma_nil)) ma_nil))) (ma_cons (me_tup (ma_cons me_str (ma_cons me_int (ma_cons (me_lst false (ma_cons (me_tup (ma_cons me_str (ma_cons me_str (ma_cons (me_var 1) ma_nil)))) ma_nil)) (ma_cons me_str ma_nil))))) (ma_cons (me_tup (ma_cons me_str ma_nil)) (ma_cons (me_tup (ma_cons me_str ma_nil)) ma_nil))))) (me_cal C_law_draw callf_B (hr.mono (by decide)) (ma_cons (me_var 0) (ma_cons me_int ma_nil)))))))
abbrev s_law_edit : Stmt := top 14
theorem sc_law_edit : FnScope ["draws", "document", "at", "removed", "k"] ["draws", "document"] (defScope s_law_edit) := ⟨rfl, rfl, rfl, by decide +kernel, rfl, by decide +kernel, by decide +kernel⟩
def b_law_edit : FS :=
    (sSeq (sAsg (mCall (callB 2 m_law_draw) (mCons (mVar 0) (mCons (mBin (gAdd false) (mCB cLen (mCons (mVar 1) mNil)) (mC (.int 1))) mNil))) (gNm 2))
    (sSeq (sAsg (mCall (callB 2 m_law_draw) (mCons (mVar 0) (mCons (mBin (gAdd false) (mBin M.gSub (mCB cLen (mCons (mVar 1) mNil)) (mVar 2)) (mC (.int 1))) mNil))) (gNm 3))
    (sRet (mTup (mCons (mC (.str "edit")) (mCons (mVar 2) (mCons (mVar 3) (mCons (mLc false (iR1 (mCons (mCall (callB 2 m_law_draw) (mCons (mVar 0) (mCons (mC (.int 4)) mNil))) mNil)) (gNm 4) tYesD (mCall (callB 1 m_law_block) (mCons (mVar 0) mNil)) [4]) mNil))))))))
def m_law_edit : List D → Sto → MM D := mDef 5 2 b_law_edit
theorem ok_law_edit {f : Addr} {fd : FuncData} (F : Fun K "_law_edit" "_law_edit" s_law_edit f fd) (T : Tx P w K mg base cs) (C_law_draw : Cal P w K mg base 1 "_law_draw" ["draws", "limit"] m_law_draw) (C_law_block : Cal P w K mg base 2 "_law_block" ["draws"] m_law_block) :
    FnOk P w K mg base CX0 3 f fd ["draws", "document"] (spM K 2 m_law_edit) :=
  fn_m F sc_law_edit fun cdv A outer s H E E' hr =>
    (mss_cons (ms_set (i := 2) sc_law_edit.nd (me_cal C_law_draw callf_B (hr.mono (by decide)) (ma_cons (me_var 0) (ma_cons (me_add false (me_callB call_len rf_len T.z_len (by decide +kernel) (ma_cons (me_var 1) ma_nil)) me_int) ma_nil))))
    (mss_cons (ms_set (i := 3) sc_law_edit.nd (me_cal C_law_draw callf_B (hr.mono (by decide)) (ma_cons (me_var 0) (ma_cons (me_add false (me_sub (me_callB call_len rf_len T.z_len (by decide +kernel) (ma_cons (me_var 1) ma_nil)) (me_var 2)) me_int) ma_nil))))
    (mss_one (ms_ret (me_tup (ma_cons me_str (ma_cons (me_var 2) (ma_cons (me_var 3) (ma_cons (me_lc (own := [("k", 4)]) (g := gName 4) (E' := E') false rfl sc_law_edit.nd (mi_range1 (ma_cons (me_cal C_law_draw callf_B (hr.mono (by decide)) (ma_cons (me_var 0) (ma_cons me_int ma_nil))) ma_nil) T.z_range) (blkOk_by (own := [("k", 4)]) (N := ["draws", "document", "at", "removed", "k"]) (sc := defScope s_law_edit) (by decide +kernel)) (fun _ _ _ _ _ => (pg_name (i := 4) sc_law_edit.nd rfl (Or.inl rfl))) (rgw_name 4) (fun _ _ _ _ _ => (me_cal C_law_block callf_B (hr.mono (by decide)) (ma_cons (me_var 0) ma_nil)))) ma_nil)))))))))
abbrev s_law_told : Stmt := top 15
theorem sc_law_told : FnScope ["call", "document", "edit"] ["call", "document", "edit"] (defScope s_law_told) := ⟨rfl, rfl, rfl, by decide +kernel, rfl, by decide +kernel, by decide +kernel⟩
def b_law_told (cs : Cs) : FS :=
    (sTry (cs.exm "EditError")
    (sRet (mCallV 0 [(cs.C "applied", callB 2 (m_applied cs)), (cs.C "inverse", callB 2 (m_inverse cs))] (mCons (mVar 1) (mCons (mVar 2) mNil))))
    (xC .non))
def m_law_told (cs : Cs) : List D → Sto → MM D := mDef 3 3 (b_law_told cs)
theorem ok_law_told {f : Addr} {fd : FuncData} (F : Fun K "_law_told" "_law_told" s_law_told f fd) (T : Tx P w K mg base cs) (C_applied : CalX P w K mg base 4 "applied" ["document", "edit"] (m_applied cs)) (C_inverse : CalX P w K mg base 4 "inverse" ["document", "edit"] (m_inverse cs)) :
    FnOk P w K mg base CX0 5 f fd ["call", "document", "edit"] (spM K 3 (m_law_told cs)) :=
  fn_m F sc_law_told fun cdv A outer s H E E' hr =>
    (mss_one (ms_tryON T.x_EditError (fun E' pn xe tk => (mss_one (ms_ret (me_callV (n := 2) (i := 0) (tbl2 (calF_of C_applied T.v_applied) callf_B (calF_of C_inverse T.v_inverse) callf_B) tk (hr.mono (by decide)) (ma_cons (me_var 1) (ma_cons (me_var 2) ma_nil))))))))
abbrev s_law_after : Stmt := top 16
theorem sc_law_after : FnScope ["document", "edit", "rows", "k"] ["document", "edit"] (defScope s_law_after) := ⟨rfl, rfl, rfl, by decide +kernel, rfl, by decide +kernel, by decide +kernel⟩
def b_law_after : FS :=
    (sSeq (sAsg (mLst true mNil) (gNm 2))
    (sSeq (sFor (iR1 (mCons (mBin (gAdd false) (mCB cLen (mCons (mVar 0) mNil)) (mC (.int 1))) mNil)) (gNm 3)
    (sSeq (sIf (mB (mBin gEq (mVar 3) (mBin gIx (mVar 1) (mC (.int 1)))))
    (sDrop (mBM "list" gExtend (mVar 2) (mCons (mBin gIx (mVar 1) (mC (.int 3))) mNil)))
    sNext)
    (sIf (mAnd (mB (mBin gLt (mVar 3) (mCB cLen (mCons (mVar 0) mNil)))) (mOr (mB (mBin gLt (mVar 3) (mBin gIx (mVar 1) (mC (.int 1))))) (mB (mBin gGe (mVar 3) (mBin (gAdd false) (mBin gIx (mVar 1) (mC (.int 1))) (mBin gIx (mVar 1) (mC (.int 2))))))))
    (sDrop (mBM "list" gAppend (mVar 2) (mCons (mBin gIx (mVar 0) (mVar 3)) mNil)))
    sNext)))
    (sFrz 2 (sRet (mVar 2)))))
def m_law_after : List D → Sto → MM D := mDef 4 2 b_law_after
theorem ok_law_after {f : Addr} {fd : FuncData} (F : Fun K "_law_after" "_law_after" s_law_after f fd) (T : Tx P w K mg base cs)  :
    FnOk P w K mg base CX0 1 f fd ["document", "edit"] (spM K 2 m_law_after) :=
  fn_m F sc_law_after fun cdv A outer s H E E' hr =>
    (mss_cons (ms_set (i := 2) sc_law_after.nd (me_lst true ma_nil))
    (mss_cons (ms_for PassesOwn.never rfl (mi_range1 (ma_cons (me_add false (me_callB call_len rf_len T.z_len (by decide +kernel) (ma_cons (me_var 0) ma_nil)) me_int) ma_nil) T.z_range) (mg_name (i := 3) sc_law_after.nd)
    (mss_cons (ms_if (mt_cmp op_eq rf_eq (me_var 3) (me_ix (me_var 1) me_int) (nomark _))
    (mss_one (ms_expr (me_extend (me_var 2) (ma_cons (me_ix (me_var 1) me_int) ma_nil))))
    mss_nil)
    (mss_one (ms_if (MW.mt (mw_and (mt_cmp opr_lt rf_cmp (me_var 3) (me_callB call_len rf_len T.z_len (by decide +kernel) (ma_cons (me_var 0) ma_nil)) (nomark _)) (mw_and1 (MW.mt (mw_or (mt_cmp opr_lt rf_cmp (me_var 3) (me_ix (me_var 1) me_int) (nomark _)) (mw_or1 (mt_cmp opr_ge rf_cmp (me_var 3) (me_add false (me_ix (me_var 1) me_int) (me_ix (me_var 1) me_int)) (nomark _))))))))
    (mss_one (ms_expr (me_append (me_var 2) (ma_cons (me_ix (me_var 0) (me_var 3)) ma_nil))))
    mss_nil))))
    (mss_frz 2 (mss_one (ms_ret (me_var 2))))))
abbrev s_law : Stmt := top 17
theorem sc_law : FnScope ["script", "draws", "document", "k", "kept", "edit", "rows", "wrong", "other", "back", "front", "most", "end", "due"] ["script"] (defScope s_law) := ⟨rfl, rfl, rfl, by decide +kernel, rfl, by decide +kernel, by decide +kernel⟩
def b_law (cs : Cs) : FS :=
    (sSeq (sAsg (mCall (callB 1 m_law_draws) (mCons (mVar 0) mNil)) (gNm 1))
    (sSeq (sAsg (mLc false (iR1 (mCons (mCall (callB 2 m_law_draw) (mCons (mVar 1) (mCons (mC (.int 10)) mNil))) mNil)) (gNm 3) tYesD (mCall (callB 1 m_law_block) (mCons (mVar 1) mNil)) [3]) (gNm 2))
    (sSeq (sAsg (mCB cRepr (mCons (mVar 2) mNil)) (gNm 4))
    (sSeq (sAsg (mCall (callB 2 m_law_edit) (mCons (mVar 1) (mCons (mVar 2) mNil))) (gNm 5))
    (sSeq (sIf (mB (mBin gEq (mCall (callB 2 m_law_draw) (mCons (mVar 1) (mCons (mC (.int 3)) mNil))) (mC (.int 0))))
    (sSeq (sAsg (mLst true (mCons (mBin gCatT (mTup (mCons (mBin gIx (mVar 5) (mC (.int 0))) (mCons (mUn gNeg (mC (.int 1))) mNil))) (mSlT (mVar 5) (mPart (mC (.int 2))) mNoPart)) (mCons (mBin gCatT (mSlT (mVar 5) mNoPart (mPart (mC (.int 2)))) (mTup (mCons (mUn gNeg (mC (.int 1))) (mCons (mBin gIx (mVar 5) (mC (.int 3))) mNil)))) (mCons (mBin gCatT (mSlT (mVar 5) mNoPart (mPart (mC (.int 2)))) (mTup (mCons (mBin (gAdd false) (mBin M.gSub (mCB cLen (mCons (mVar 2) mNil)) (mBin gIx (mVar 5) (mC (.int 1)))) (mC (.int 1))) (mCons (mBin gIx (mVar 5) (mC (.int 3))) mNil)))) mNil)))) (gNm 6))
    (sSeq (sDrop (mBM "list" gAppend (mVar 6) (mCons (mTup (mCons (mC (.str "edit")) (mCons (mBin (gAdd false) (mCB cLen (mCons (mVar 2) mNil)) (mC (.int 1))) (mCons (mC (.int 0)) (mCons (mBin gIx (mVar 5) (mC (.int 3))) mNil))))) mNil)))
    (sSeq (sAsg (mBin gIx (mVar 6) (mCall (callB 2 m_law_draw) (mCons (mVar 1) (mCons (mC (.int 4)) mNil)))) (gNm 7))
    (sRet (mAndV (mBin gIsN (mCall (callB 3 (m_law_told cs)) (mCons (mC (.fnc (cs.C "applied"))) (mCons (mVar 2) (mCons (mVar 7) mNil)))) (mC .non)) (mAndV (mBin gIsN (mCall (callB 3 (m_law_told cs)) (mCons (mC (.fnc (cs.C "inverse"))) (mCons (mVar 2) (mCons (mVar 7) mNil)))) (mC .non)) (mBin gEq (mCB cRepr (mCons (mVar 2) mNil)) (mVar 4))))))))
    sNext)
    (sSeq (sAsg (mCall (callB 2 m_law_after) (mCons (mVar 2) (mCons (mVar 5) mNil))) (gNm 8))
    (sSeq (sAsg (mTup (mCons (mC (.str "edit")) (mCons (mBin gIx (mVar 5) (mC (.int 1))) (mCons (mCB cLen (mCons (mBin gIx (mVar 5) (mC (.int 3))) mNil)) (mCons (mSl false (mVar 2) (mPart (mBin gIx (mVar 5) (mC (.int 1)))) (mPart (mBin (gAdd false) (mBin gIx (mVar 5) (mC (.int 1))) (mBin gIx (mVar 5) (mC (.int 2)))))) mNil))))) (gNm 9))
    (sSeq (sIf (mOr (mNot (mTru (mCall (callB 2 (m_law_same 6)) (mCons (mCall (callB 3 (m_law_told cs)) (mCons (mC (.fnc (cs.C "applied"))) (mCons (mVar 2) (mCons (mVar 5) mNil)))) (mCons (mVar 8) mNil))))) (mNot (mTru (mCall (callB 2 (m_law_same 6)) (mCons (mCall (callB 3 (m_law_told cs)) (mCons (mC (.fnc (cs.C "inverse"))) (mCons (mVar 2) (mCons (mVar 5) mNil)))) (mCons (mVar 9) mNil))))))
    (sRet (mC (.bl false)))
    sNext)
    (sSeq (sIf (mNot (mTru (mCall (callB 2 (m_law_same 6)) (mCons (mCall (callB 2 (m_applied cs)) (mCons (mVar 8) (mCons (mVar 9) mNil))) (mCons (mVar 2) mNil)))))
    (sRet (mC (.bl false)))
    sNext)
    (sSeq (sIf (mB (mBin gEq (mCall (callB 2 m_law_draw) (mCons (mVar 1) (mCons (mC (.int 2)) mNil))) (mC (.int 0))))
    (sAsg (mCall (callB 2 m_law_after) (mCons (mVar 8) (mCons (mCall (callB 2 m_law_edit) (mCons (mVar 1) (mCons (mVar 8) mNil))) mNil))) (gNm 8))
    sNext)
    (sSeq (sIf (mB (mBin gEq (mCall (callB 2 m_law_draw) (mCons (mVar 1) (mCons (mC (.int 6)) mNil))) (mC (.int 0))))
    (sAsg (mLc false (iR1 (mCons (mCall (callB 2 m_law_draw) (mCons (mVar 1) (mCons (mC (.int 10)) mNil))) mNil)) (gNm 3) tYesD (mCall (callB 1 m_law_block) (mCons (mVar 1) mNil)) [3]) (gNm 8))
    sNext)
    (sSeq (sAsg (mCB cMaxL (mCons (mLc false (iR1 (mCons (mBin (gAdd false) (mCB cMin2 (mCons (mCB cLen (mCons (mVar 2) mNil)) (mCons (mCB cLen (mCons (mVar 8) mNil)) mNil))) (mC (.int 1))) mNil)) (gNm 3) (mB (mBin (gEqD false) (mSl false (mVar 2) mNoPart (mPart (mVar 3))) (mSl false (mVar 8) mNoPart (mPart (mVar 3))))) (mVar 3) [3]) mNil)) (gNm 10))
    (sSeq (sAsg (mBin M.gSub (mCB cMin2 (mCons (mCB cLen (mCons (mVar 2) mNil)) (mCons (mCB cLen (mCons (mVar 8) mNil)) mNil))) (mVar 10)) (gNm 11))
    (sSeq (sAsg (mCB cMaxL (mCons (mLc false (iR1 (mCons (mBin (gAdd false) (mVar 11) (mC (.int 1))) mNil)) (gNm 3) (mB (mBin (gEqD false) (mSl false (mVar 2) (mPart (mBin M.gSub (mCB cLen (mCons (mVar 2) mNil)) (mVar 3))) mNoPart) (mSl false (mVar 8) (mPart (mBin M.gSub (mCB cLen (mCons (mVar 8) mNil)) (mVar 3))) mNoPart))) (mVar 3) [3]) mNil)) (gNm 12))
    (sSeq (sAsg (mTup (mCons (mC (.str "edit")) (mCons (mVar 10) (mCons (mBin M.gSub (mBin M.gSub (mCB cLen (mCons (mVar 2) mNil)) (mVar 10)) (mVar 12)) (mCons (mSl false (mVar 8) (mPart (mVar 10)) (mPart (mBin M.gSub (mCB cLen (mCons (mVar 8) mNil)) (mVar 12)))) mNil))))) (gNm 13))
    (sRet (mAndV (mCall (callB 2 (m_law_same 6)) (mCons (mCall (callB 2 m_difference) (mCons (mVar 2) (mCons (mVar 8) mNil))) (mCons (mVar 13) mNil))) (mAndV (mCall (callB 2 (m_law_same 6)) (mCons (mCall (callB 2 (m_applied cs)) (mCons (mVar 2) (mCons (mVar 13) mNil))) (mCons (mVar 8) mNil))) (mBin gEq (mCB cRepr (mCons (mVar 2) mNil)) (mVar 4))))))))))))))))))))
def m_law (cs : Cs) : List D → Sto → MM D := mDef 14 1 (b_law cs)
theorem ok_law {f : Addr} {fd : FuncData} (F : Fun K "law" "law" s_law f fd) (T : Tx P w K mg base cs) (C_law_draws : Cal P w K mg base 1 "_law_draws" ["script"] m_law_draws) (C_law_draw : Cal P w K mg base 1 "_law_draw" ["draws", "limit"] m_law_draw) (C_law_block : Cal P w K mg base 2 "_law_block" ["draws"] m_law_block) (C_law_edit : Cal P w K mg base 3 "_law_edit" ["draws", "document"] m_law_edit) (C_law_told : Cal P w K mg base 5 "_law_told" ["call", "document", "edit"] (m_law_told cs)) (C_law_after : Cal P w K mg base 1 "_law_after" ["document", "edit"] m_law_after) (C_law_same : Cal P w K mg base 6 "_law_same" ["actual", "expected"] (m_law_same 6)) (C_applied : CalX P w K mg base 4 "applied" ["document", "edit"] (m_applied cs)) (C_difference : Cal P w K mg base 2 "difference" ["old", "new"] m_difference) (hm : ∀ ns : List Int, ns.length ≤ 63 → ∃ st, (m_law cs) [.scr ns] [] = some (.ok (.bl true) st)) {s : Shared} {H : Hp} {a : Addr} {ns : List Int} (e0 : Env0 P w K mg base callerA [] s H) (hb : BindsTo s fd ⟨[.ref a], []⟩ [("script", .ref a)]) (sq : SqL K H a (ns.map V.int)) (hl : ns.length ≤ 63) :
    codeAny (model P w) callerA (.call (.ref f) ⟨[.ref a], []⟩) (CR CX0 [] P w H s (fun v _ => v = .bl true) (fun _ _ _ => False)) s :=
  fn_law (k := 6) F sc_law ⟨rfl, by decide, by decide⟩ e0 hb sq (hm ns hl) fun cdv hr hg =>
    (mss_cons (ms_set (i := 1) sc_law.nd (me_cal C_law_draws callf_B (hr.mono (by decide)) (ma_cons (me_var 0) ma_nil)))
    (mss_cons (ms_set (i := 2) sc_law.nd (me_lc (own := [("k", 3)]) (g := gName 3) (E' := fun _ _ _ => False) false rfl sc_law.nd (mi_range1 (ma_cons (me_cal C_law_draw callf_B (hr.mono (by decide)) (ma_cons (me_var 1) (ma_cons me_int ma_nil))) ma_nil) T.z_range) (blkOk_by (own := [("k", 3)]) (N := ["script", "draws", "document", "k", "kept", "edit", "rows", "wrong", "other", "back", "front", "most", "end", "due"]) (sc := defScope s_law) (by decide +kernel)) (fun _ _ _ _ _ => (pg_name (i := 3) sc_law.nd rfl (Or.inl rfl))) (rgw_name 3) (fun _ _ _ _ _ => (me_cal C_law_block callf_B (hr.mono (by decide)) (ma_cons (me_var 1) ma_nil)))))
    (mss_cons (ms_set (i := 4) sc_law.nd (me_callB (call_repr hg hr.units) rf_repr T.z_repr (by decide +kernel) (ma_cons (me_var 2) ma_nil)))
    (mss_cons (ms_set (i := 5) sc_law.nd (me_cal C_law_edit callf_B (hr.mono (by decide)) (ma_cons (me_var 1) (ma_cons (me_var 2) ma_nil))))
    (mss_cons (ms_if (mt_cmp op_eq rf_eq (me_cal C_law_draw callf_B (hr.mono (by decide)) (ma_cons (me_var 1) (ma_cons me_int ma_nil))) me_int (nomark _))
    (mss_cons (ms_set (i := 6) sc_law.nd (me_lst true (ma_cons (me_catT (me_tup (ma_cons (me_ix (me_var 5) me_int) (ma_cons (me_neg me_int) ma_nil))) (me_slT (me_var 5) (mo_some me_int) mo_none)) (ma_cons (me_catT (me_slT (me_var 5) mo_none (mo_some me_int)) (me_tup (ma_cons (me_neg me_int) (ma_cons (me_ix (me_var 5) me_int) ma_nil)))) (ma_cons (me_catT (me_slT (me_var 5) mo_none (mo_some me_int)) (me_tup (ma_cons (me_add false (me_sub (me_callB call_len rf_len T.z_len (by decide +kernel) (ma_cons (me_var 2) ma_nil)) (me_ix (me_var 5) me_int)) me_int) (ma_cons (me_ix (me_var 5) me_int) ma_nil)))) ma_nil)))))
    (mss_cons (ms_expr (me_append (me_var 6) (ma_cons (me_tup (ma_cons me_str (ma_cons (me_add false (me_callB call_len rf_len T.z_len (by decide +kernel) (ma_cons (me_var 2) ma_nil)) me_int) (ma_cons me_int (ma_cons (me_ix (me_var 5) me_int) ma_nil))))) ma_nil)))
    (mss_cons (ms_set (i := 7) sc_law.nd (me_ix (me_var 6) (me_cal C_law_draw callf_B (hr.mono (by decide)) (ma_cons (me_var 1) (ma_cons me_int ma_nil)))))
    (mss_one (ms_ret (me_and (me_cmp op_isN rf_isN (me_cal C_law_told callf_B (hr.mono (by decide)) (ma_cons (me_fnV T.v_applied) (ma_cons (me_var 2) (ma_cons (me_var 7) ma_nil)))) me_non (nomark _)) (me_and (me_cmp op_isN rf_isN (me_cal C_law_told callf_B (hr.mono (by decide)) (ma_cons (me_fnV T.v_inverse) (ma_cons (me_var 2) (ma_cons (me_var 7) ma_nil)))) me_non (nomark _)) (me_one (me_cmp op_eq rf_eq (me_callB (call_repr hg hr.units) rf_repr T.z_repr (by decide +kernel) (ma_cons (me_var 2) ma_nil)) (me_var 4) (nomark _))))))))))
    mss_nil)
    (mss_cons (ms_set (i := 8) sc_law.nd (me_cal C_law_after callf_B (hr.mono (by decide)) (ma_cons (me_var 2) (ma_cons (me_var 5) ma_nil))))
    (mss_cons (ms_set (i := 9) sc_law.nd (me_tup (ma_cons me_str (ma_cons (me_ix (me_var 5) me_int) (ma_cons (me_callB call_len rf_len T.z_len (by decide +kernel) (ma_cons (me_ix (me_var 5) me_int) ma_nil)) (ma_cons (me_sl false (me_var 2) (mo_some (me_ix (me_var 5) me_int)) (mo_some (me_add false (me_ix (me_var 5) me_int) (me_ix (me_var 5) me_int)))) ma_nil))))))
    (mss_cons (ms_if (MW.mt (mw_or (mt_not (mt_truth (me_cal C_law_same callf_B (hr.mono (by decide)) (ma_cons (me_cal C_law_told callf_B (hr.mono (by decide)) (ma_cons (me_fnV T.v_applied) (ma_cons (me_var 2) (ma_cons (me_var 5) ma_nil)))) (ma_cons (me_var 8) ma_nil))))) (mw_or1 (mt_not (mt_truth (me_cal C_law_same callf_B (hr.mono (by decide)) (ma_cons (me_cal C_law_told callf_B (hr.mono (by decide)) (ma_cons (me_fnV T.v_inverse) (ma_cons (me_var 2) (ma_cons (me_var 5) ma_nil)))) (ma_cons (me_var 9) ma_nil))))))))
    (mss_one (ms_ret me_bl))
    mss_nil)
    (mss_cons (ms_if (mt_not (mt_truth (me_cal C_law_same callf_B (hr.mono (by decide)) (ma_cons (me_calX C_applied takes0 callf_B (hr.mono (by decide)) (ma_cons (me_var 8) (ma_cons (me_var 9) ma_nil))) (ma_cons (me_var 2) ma_nil)))))
    (mss_one (ms_ret me_bl))
    mss_nil)
    (mss_cons (ms_if (mt_cmp op_eq rf_eq (me_cal C_law_draw callf_B (hr.mono (by decide)) (ma_cons (me_var 1) (ma_cons me_int ma_nil))) me_int (nomark _))
    (mss_one (ms_set (i := 8) sc_law.nd (me_cal C_law_after callf_B (hr.mono (by decide)) (ma_cons (me_var 8) (ma_cons (me_cal C_law_edit callf_B (hr.mono (by decide)) (ma_cons (me_var 1) (ma_cons (me_var 8) ma_nil))) ma_nil)))))
    mss_nil)
    (mss_cons (ms_if (mt_cmp op_eq rf_eq (me_cal C_law_draw callf_B (hr.mono (by decide)) (ma_cons (me_var 1) (ma_cons me_int ma_nil))) me_int (nomark _))
    (mss_one (ms_set (i := 8) sc_law.nd (me_lc (own := [("k", 3)]) (g := gName 3) (E' := fun _ _ _ => False) false rfl sc_law.nd (mi_range1 (ma_cons (me_cal C_law_draw callf_B (hr.mono (by decide)) (ma_cons (me_var 1) (ma_cons me_int ma_nil))) ma_nil) T.z_range) (blkOk_by (own := [("k", 3)]) (N := ["script", "draws", "document", "k", "kept", "edit", "rows", "wrong", "other", "back", "front", "most", "end", "due"]) (sc := defScope s_law) (by decide +kernel)) (fun _ _ _ _ _ => (pg_name (i := 3) sc_law.nd rfl (Or.inl rfl))) (rgw_name 3) (fun _ _ _ _ _ => (me_cal C_law_block callf_B (hr.mono (by decide)) (ma_cons (me_var 1) ma_nil))))))
    mss_nil)
    (mss_cons (ms_set (i := 10) sc_law.nd (me_callB (cr_max rfl) rf_maxL T.z_max (by decide +kernel) (ma_cons (me_lcIf (own := [("k", 3)]) (g := gName 3) (E' := fun _ _ _ => False) false rfl sc_law.nd (mi_range1 (ma_cons (me_add false (me_callB (call_min2 rfl) rf_2I T.z_min (by decide +kernel) (ma_cons (me_callB call_len rf_len T.z_len (by decide +kernel) (ma_cons (me_var 2) ma_nil)) (ma_cons (me_callB call_len rf_len T.z_len (by decide +kernel) (ma_cons (me_var 8) ma_nil)) ma_nil))) me_int) ma_nil) T.z_range) (blkOk_by (own := [("k", 3)]) (N := ["script", "draws", "document", "k", "kept", "edit", "rows", "wrong", "other", "back", "front", "most", "end", "due"]) (sc := defScope s_law) (by decide +kernel)) (fun _ _ _ _ _ => (pg_name (i := 3) sc_law.nd rfl (Or.inl rfl))) (rgw_name 3) (fun _ _ _ _ _ => (mt_cmp (op_eqD hr.units) (rf_eqD) (me_sl false (me_var 2) mo_none (mo_some (me_var 3))) (me_sl false (me_var 8) mo_none (mo_some (me_var 3))) (nomark _))) (fun _ _ _ _ _ => (me_var 3))) ma_nil)))
    (mss_cons (ms_set (i := 11) sc_law.nd (me_sub (me_callB (call_min2 rfl) rf_2I T.z_min (by decide +kernel) (ma_cons (me_callB call_len rf_len T.z_len (by decide +kernel) (ma_cons (me_var 2) ma_nil)) (ma_cons (me_callB call_len rf_len T.z_len (by decide +kernel) (ma_cons (me_var 8) ma_nil)) ma_nil))) (me_var 10)))
    (mss_cons (ms_set (i := 12) sc_law.nd (me_callB (cr_max rfl) rf_maxL T.z_max (by decide +kernel) (ma_cons (me_lcIf (own := [("k", 3)]) (g := gName 3) (E' := fun _ _ _ => False) false rfl sc_law.nd (mi_range1 (ma_cons (me_add false (me_var 11) me_int) ma_nil) T.z_range) (blkOk_by (own := [("k", 3)]) (N := ["script", "draws", "document", "k", "kept", "edit", "rows", "wrong", "other", "back", "front", "most", "end", "due"]) (sc := defScope s_law) (by decide +kernel)) (fun _ _ _ _ _ => (pg_name (i := 3) sc_law.nd rfl (Or.inl rfl))) (rgw_name 3) (fun _ _ _ _ _ => (mt_cmp (op_eqD hr.units) (rf_eqD) (me_sl false (me_var 2) (mo_some (me_sub (me_callB call_len rf_len T.z_len (by decide +kernel) (ma_cons (me_var 2) ma_nil)) (me_var 3))) mo_none) (me_sl false (me_var 8) (mo_some (me_sub (me_callB call_len rf_len T.z_len (by decide +kernel) (ma_cons (me_var 8) ma_nil)) (me_var 3))) mo_none) (nomark _))) (fun _ _ _ _ _ => (me_var 3))) ma_nil)))
    (mss_cons (ms_set (i := 13) sc_law.nd (me_tup (ma_cons me_str (ma_cons (me_var 10) (ma_cons (me_sub (me_sub (me_callB call_len rf_len T.z_len (by decide +kernel) (ma_cons (me_var 2) ma_nil)) (me_var 10)) (me_var 12)) (ma_cons (me_sl false (me_var 8) (mo_some (me_var 10)) (mo_some (me_sub (me_callB call_len rf_len T.z_len (by decide +kernel) (ma_cons (me_var 8) ma_nil)) (me_var 12)))) ma_nil))))))
    (mss_one (ms_ret (me_and (me_cal C_law_same callf_B (hr.mono (by decide)) (ma_cons (me_cal C_difference callf_B (hr.mono (by decide)) (ma_cons (me_var 2) (ma_cons (me_var 8) ma_nil))) (ma_cons (me_var 13) ma_nil))) (me_and (me_cal C_law_same callf_B (hr.mono (by decide)) (ma_cons (me_calX C_applied takes0 callf_B (hr.mono (by decide)) (ma_cons (me_var 2) (ma_cons (me_var 13) ma_nil))) (ma_cons (me_var 8) ma_nil))) (me_one (me_cmp op_eq rf_eq (me_callB (call_repr hg hr.units) rf_repr T.z_repr (by decide +kernel) (ma_cons (me_var 2) ma_nil)) (me_var 4) (nomark _))))))))))))))))))))))
end
structure Kn (cs : Cs) : Prop where
  e_EditError_EditError : cs.exm "EditError" (cs.C "EditError") = true
  n_inverse_applied : cs.C "inverse" ≠ cs.C "applied"
section
open PySem PySem.Spec L2 M
theorem ens_asg2 {f : FE} {g : FG} {sl : Sl} {st : Sto} {N : Sl → Sto → Prop} {R : D → Sto → Prop} (h : Ens (f sl st) fun d st => Ens (g d sl st) N) : EnsS (sAsg f g sl st) N R := ens_bnd (h.imp fun _ _ q => ens_bnd (q.imp fun _ _ q => ens_ret q))

end
local macro_rules | `(tactic| walk_at "es8") => `(tactic| first
  | with_reducible apply ens_seq
  | with_reducible apply ens_asg
  | with_reducible apply ens_asg2
  | with_reducible apply ens_retS
  | with_reducible apply ens_drop
  | with_reducible apply ens_ifS
  | with_reducible apply ens_next
  | ((with_reducible apply ens_var); exact rfl)
  | with_reducible apply ens_C
  | with_reducible apply ens_bin
  | with_reducible apply ens_un
  | with_reducible apply ens_CB
  | with_reducible apply ens_call
  | with_reducible apply ens_nil
  | with_reducible apply ens_cons
  | (with_reducible apply ens_tup)
  | (with_reducible apply ens_lst)
  | (with_reducible apply ens_lstC)
  | with_reducible apply ens_BM
  | with_reducible apply ens_BM0
  | with_reducible apply ens_NP
  | with_reducible apply ens_PA
  | with_reducible apply ens_SL
  | with_reducible apply ens_DG
  | with_reducible apply ens_DG2
  | with_reducible apply ens_DI
  | with_reducible apply en_DIn
  | with_reducible apply ens_KE
  | with_reducible apply ens_MD
  | with_reducible apply ens_NK
  | with_reducible apply ens_NT
  | with_reducible apply ens_B
  | with_reducible apply ens_TR
  | with_reducible apply ens_AND
  | with_reducible apply ens_OR
  | with_reducible apply ens_NOT
  | with_reducible apply ens_ANDV
  | with_reducible apply ens_NOTV
  | with_reducible apply en_orV
  | with_reducible apply en_ifE
  | with_reducible apply ens_LC
  | with_reducible apply en_LCc
  | with_reducible apply ens_FOR
  | with_reducible apply ens_R1
  | with_reducible apply en_R2
  | with_reducible apply en_R3
  | with_reducible apply ens_IA
  | with_reducible apply ens_IE
  | with_reducible apply ens_IES
  | with_reducible apply ens_Z
  | ((with_reducible apply ens_AUG); exact rfl)
  | with_reducible apply ens_PAR
  | ((with_reducible apply ens_FRZ); exact rfl)
  | with_reducible apply ens_DP
  | with_reducible apply ens_CH
  | with_reducible apply ens_IG
  | with_reducible apply ens_DIN
  | with_reducible apply ens_lenG
  | with_reducible apply ens_lenK
  | with_reducible apply ens_PAR3
  | with_reducible apply ens_FE
  | with_reducible apply en_retN
  | with_reducible apply en_yes
  | with_reducible apply en_gNm
  | ((with_reducible apply en_gTp); refine ⟨rfl, ?_⟩)
  | with_reducible apply en_gsC
  | with_reducible apply en_gsN
  | with_reducible apply en_addI
  | with_reducible apply en_subI
  | with_reducible apply en_neg
  | with_reducible apply en_augI
  | with_reducible apply en_cmpI
  | with_reducible apply en_eqI
  | with_reducible apply en_neI
  | with_reducible apply en_eqS
  | with_reducible apply en_neS
  | ((with_reducible apply en_isiT); · exact rfl)
  | ((with_reducible apply en_isiF); · exact rfl)
  | ((with_reducible apply en_isNT); · exact rfl)
  | ((with_reducible apply en_isNF); · exact rfl)
  | ((with_reducible apply en_notNT); · exact rfl)
  | ((with_reducible apply en_notNF); · exact rfl)
  | ((with_reducible apply ens_ixT); · exact rfl)
  | with_reducible apply en_lenL
  | with_reducible apply en_lenT
  | with_reducible apply en_listL
  | with_reducible apply en_listC
  | with_reducible apply en_int
  | with_reducible apply en_max2
  | with_reducible apply en_min2
  | with_reducible apply en_slL
  | with_reducible apply en_T
  | with_reducible apply en_F
  | with_reducible apply en_nT
  | with_reducible apply en_nF
  | with_reducible apply en_rf
  | with_reducible apply en_nrf
  | with_reducible refine en_1000 rfl ?_
  | ((with_reducible apply en_ty); · exact rfl)
  | refine ⟨_, rfl, ?_⟩
  | refine ⟨_, _, _, _, rfl, rfl, rfl, ?_⟩)
section
variable {st : Sto}
variable {st : Sto}
/-! the draws of a law: the script, the place in it, what is left of a great number, the seed -/
def drD (ns : List Int) (i b c : Int) : List D := [.lst (iDs ns), .int i, .int b, .int c]
def Dr (C : Cell) : Prop := ∃ ns i b c, C = .lst (drD ns i b c) ∧ 0 ≤ i ∧ 0 ≤ b
theorem pf_iDs (ns : List Int) : pfs (iDs ns) = true := by
  unfold iDs
  induction ns with
  | nil => rfl
  | cons x r ih => rw [List.map_cons, pfs, ih]; rfl
theorem pf_dr {C : Cell} (h : Dr C) : pfC C = true := by
  obtain ⟨ns, i, b, c, rfl, _⟩ := h
  show (pf (.lst (iDs ns)) && _) = true
  rw [pf, pf_iDs]; rfl
theorem en_setI {j k : Nat} {i : Int} {v : D} {ds : List D} {N : Sl → Sto → Prop} {sl : Sl} {fo fi : FE} {st1 st2 : Sto} (e : fo sl st = M.ret (.ptr j) st1) (e2 : fi sl st1 = M.ret (.int i) st2) (e3 : st2[j]? = some (some (.lst ds))) (e4 : ixN ds.length i = some k) (q : N sl (st2.set j (some (.lst (ds.set k v))))) : Ens (gSet fo fi gSetL v sl st) N := by
  have h1 : cellL st2 j = some ds := by unfold cellL; rw [e3]
  have h2 : gSetL st2 (.ptr j) (.int i) v = M.ret () (st2.set j (some (.lst (ds.set k v)))) := by
    show (match cellL st2 j with
      | some ds => match ixN ds.length i with
        | some j' => M.ret () (st2.set j (some (.lst (ds.set j' v))))
        | none => none
      | none => none) = _
    rw [h1]
    dsimp only
    rw [e4]
  exact ens_bnd (ens_red e (ens_bnd (ens_red e2 (ens_bnd (ens_red h2 (ens_ret q))))))
theorem iDs_len' (ns : List Int) : (iDs ns).length = ns.length := by unfold iDs; rw [List.length_map]
theorem en_f2 {A B : Prop} (h : B) : (false = true → A) ∧ (false = false → B) := ⟨fun z => (by cases z), fun _ => h⟩
theorem s_drawE {n : Int} (hn : 0 < n) (h63 : n < 1073741824) {ns : List Int} {b c : Int} {i : Int} (sl : Sl) (hsl : ∃ x y, sl = [some (.ptr 0), some (.int n), x, y]) (hb : 0 ≤ b) (h0 : 0 ≤ i) {R : D → Sto → Prop} {N : Sl → Sto → Prop} (q : ∀ v C, 0 ≤ v → v < n → Dr C → R (.int v) [some C]) :
    EnsS ((sSeq (sIf (mB (mBin gGt (mBin gIx (mVar 0) (mC (.int 2))) (mC (.int 0))))
    (sSeq (sAsg (mBin M.gMod (mCB cInt (mCons (mBin gIx (mVar 0) (mC (.int 2))) mNil)) (mVar 1)) (gNm 3))
    (sSeq (sAsg (mBin M.gDiv (mBin gIx (mVar 0) (mC (.int 2))) (mVar 1)) (gSet (mVar 0) (mC (.int 2)) gSetL))
    (sRet (mVar 3))))
    sNext)
    (sSeq (sAsg (mBin M.gMod (mCB cInt (mCons (mBin (gAdd false) (mBin M.gMul (mBin gIx (mVar 0) (mC (.int 3))) (mC (.int 69621))) (mC (.int 7))) mNil)) (mC (.int 2147483629))) (gSet (mVar 0) (mC (.int 3)) gSetL))
    (sRet (mBin M.gMod (mCB cInt (mCons (mBin M.gDiv (mBin gIx (mVar 0) (mC (.int 3))) (mC (.int 11))) mNil)) (mVar 1))))) sl [some (.lst (drD ns i b c))]) N R := by
  obtain ⟨x, y, rfl⟩ := hsl
  repeat walk_at "es8"
  refine ens_ix rfl rfl ?_
  repeat walk_at "es8"
  refine en_both (fun _ => ?_) fun _ => ?_
  · repeat walk_at "es8"
    refine ens_ix rfl rfl ?_
    repeat walk_at "es8"
    refine ens_I hn ?_
    repeat walk_at "es8"
    refine ens_ix rfl rfl ?_
    repeat walk_at "es8"
    refine ens_I (show CDiv b n from ⟨hn, h63⟩) ?_
    refine en_setI rfl rfl rfl rfl ?_
    repeat walk_at "es8"
    exact q _ _ (Int.emod_nonneg _ (by omega)) (Int.emod_lt_of_pos _ hn) ⟨ns, i, b / n, c, rfl, h0, Int.ediv_nonneg hb (by omega)⟩
  · repeat walk_at "es8"
    refine ens_ix rfl rfl ?_
    repeat walk_at "es8"
    refine ens_I (show CMul c 69621 from .inr (by decide)) ?_
    repeat walk_at "es8"
    refine ens_I (by decide) ?_
    refine en_setI rfl rfl rfl rfl ?_
    repeat walk_at "es8"
    refine ens_ix rfl rfl ?_
    repeat walk_at "es8"
    refine ens_I (show CDiv _ 11 from ⟨by decide, by decide⟩) ?_
    repeat walk_at "es8"
    refine ens_I hn ?_
    exact q _ _ (Int.emod_nonneg _ (by omega)) (Int.emod_lt_of_pos _ hn) ⟨ns, i, b, _, rfl, h0, hb⟩
theorem s_draw {n : Int} (hn : 0 < n) (h63 : n < 1073741824) {C : Cell} (hC : Dr C) : Ens (m_law_draw [.ptr 0, .int n] [some C]) fun d cs => ∃ v C', d = .int v ∧ 0 ≤ v ∧ v < n ∧ Dr C' ∧ cs = [some C'] := by
  obtain ⟨ns, i, b, c, rfl, h0, hb⟩ := hC
  refine ens_def [some (.ptr 0), some (.int n), none, none] rfl ?_
  unfold b_law_draw
  refine ens_seq (ens_ifS (ens_AND (ens_B ?_)))
  repeat walk_at "es8"
  refine ens_ix rfl rfl ?_
  repeat walk_at "es8"
  refine en_both (fun z => ?_) fun _ => ?_
  · have hb0 : b = 0 := of_decide_eq_true z
    refine ens_B ?_
    repeat walk_at "es8"
    refine ens_ix rfl rfl ?_
    repeat walk_at "es8"
    refine ens_ix rfl rfl ?_
    repeat walk_at "es8"
    rw [iDs_len']
    refine en_both (fun z => ?_) fun _ => ?_
    · have hi : i < (ns.length : Int) := of_decide_eq_true z
      obtain ⟨d, m, e⟩ := atI_in (ds := iDs ns) h0 (by rw [iDs_len']; exact hi)
      obtain ⟨cell, _, rfl⟩ := List.mem_map.mp m
      refine ens_seq (ens_asg ?_)
      repeat walk_at "es8"
      refine ens_ix rfl rfl ?_
      repeat walk_at "es8"
      refine ens_ix rfl rfl ?_
      refine ens_ix rfl e ?_
      repeat walk_at "es8"
      refine ens_ix rfl rfl ?_
      repeat walk_at "es8"
      refine en_setI rfl rfl rfl rfl ?_
      refine ens_seq (ens_ifS ?_)
      repeat walk_at "es8"
      refine ens_I (by decide) ?_
      refine ens_red rfl ⟨_, rfl, fun z => ?_, fun _ => ?_⟩
      · have hc : (10 : Int) ^ 18 ≤ cell := of_decide_eq_true z
        have hc : 0 ≤ cell := Int.le_trans (by decide) hc
        repeat walk_at "es8"
        refine en_setI rfl rfl rfl rfl ?_
        repeat walk_at "es8"
        refine ens_ix rfl rfl ?_
        repeat walk_at "es8"
        refine ens_I (show CMul _ 48271 from .inr (by decide)) ?_
        repeat walk_at "es8"
        refine ens_I (by decide) ?_
        refine en_setI rfl rfl rfl rfl ?_
        exact s_drawE (ns := ns) hn h63 _ ⟨_, _, rfl⟩ hc (by omega) fun v C h1 h2 h3 => ⟨v, C, rfl, h1, h2, h3, rfl⟩
      · repeat walk_at "es8"
        refine ens_ix rfl rfl ?_
        repeat walk_at "es8"
        refine ens_I (show CMul _ 48271 from .inr (by decide)) ?_
        repeat walk_at "es8"
        refine ens_I (by decide) ?_
        refine en_setI rfl rfl rfl rfl ?_
        exact s_drawE (ns := ns) hn h63 _ ⟨_, _, rfl⟩ hb (by omega) fun v C h1 h2 h3 => ⟨v, C, rfl, h1, h2, h3, rfl⟩
    · refine ens_next ?_
      exact s_drawE (ns := ns) hn h63 _ ⟨_, _, rfl⟩ hb h0 fun v C h1 h2 h3 => ⟨v, C, rfl, h1, h2, h3, rfl⟩
  · refine en_f2 (ens_next ?_)
    exact s_drawE (ns := ns) hn h63 _ ⟨_, _, rfl⟩ hb h0 fun v C h1 h2 h3 => ⟨v, C, rfl, h1, h2, h3, rfl⟩
theorem s_drawB {n : Int} (hn : 0 < n) (h63 : n < 1073741824) {C : Cell} (hC : Dr C) {Q : D → Sto → Prop} (h : ∀ v C', 0 ≤ v → v < n → Dr C' → Q (.int v) (some C' :: st)) : Ens (callB 2 m_law_draw [.ptr 0, .int n] (some C :: st)) Q :=
  ens_B1 rfl rfl (pf_dr hC) ((s_draw hn h63 hC).imp fun d cs ⟨v, C', e1, h0, h1, h2, e2⟩ => ⟨C', [], e2, pf_dr h2, by rw [e1]; rfl, by rw [e1]; exact h v C' h0 h1 h2⟩)
/-! the same data -/
def sOk : Nat → D → Bool
  | 0, d => match d with
    | .non => true
    | .bl _ => true
    | .int _ => true
    | .str _ => true
    | _ => false
  | n + 1, d => match d with
    | .non => true
    | .bl _ => true
    | .int _ => true
    | .str _ => true
    | .lst ds => decide (ds.length ≤ 1000000) && ds.all (sOk n)
    | .tup ds => decide (ds.length ≤ 1000000) && ds.all (sOk n)
    | _ => false
theorem blsR : ∀ n : Nat, blsOf (List.replicate n (D.bl true)) = some (List.replicate n true)
  | 0 => rfl
  | n + 1 => by rw [List.replicate_succ, blsOf, blsR n]; rfl
theorem en_allR {n : Nat} {Q : D → Sto → Prop} (q : Q (.bl true) st) : Ens (cAll st [.lst (List.replicate n (.bl true))]) Q := by
  show Ens (match blsOf (List.replicate n (.bl true)) with
    | some bs => M.ret (.bl (bs.all id)) st
    | none => none) Q
  rw [blsR]
  have e : (List.replicate n true).all id = true := by rw [List.all_eq_true]; intro x m; exact (List.mem_replicate.mp m).2
  show Ens (M.ret (.bl ((List.replicate n true).all id)) st) Q
  rw [e]
  exact ens_ret q
theorem en_isi2F {x : D} {Q : D → Sto → Prop} (e : gIsi2 "tuple" "list" st x = M.ret (.bl false) st) (q : Q (.bl false) st) : Ens (gIsi2 "tuple" "list" st x) Q := ens_red e q
theorem en_isi2T {x : D} {Q : D → Sto → Prop} (e : gIsi2 "tuple" "list" st x = M.ret (.bl true) st) (q : Q (.bl true) st) : Ens (gIsi2 "tuple" "list" st x) Q := ens_red e q
theorem pfs_all {ds : List D} (h : ∀ d ∈ ds, pf d = true) : pfs ds = true := by
  induction ds with
  | nil => rfl
  | cons d r ih => rw [pfs, h d List.mem_cons_self, ih fun x m => h x (List.mem_cons_of_mem _ m)]; rfl
theorem sOk_pf : ∀ (n : Nat) (d : D), sOk n d = true → pf d = true
  | 0, d, h => by cases d <;> first | rfl | cases h
  | n + 1, d, h => by
    cases d with
    | lst ds =>
      rw [sOk, Bool.and_eq_true, List.all_eq_true] at h
      rw [pf]; exact pfs_all fun x m => sOk_pf n x (h.2 x m)
    | tup ds =>
      rw [sOk, Bool.and_eq_true, List.all_eq_true] at h
      rw [pf]; exact pfs_all fun x m => sOk_pf n x (h.2 x m)
    | _ => first | rfl | cases h
theorem same_leaf (m : List D → Sto → MM D) {d : D} (h : sOk 0 d = true) {Q : D → Sto → Prop} (q : Q (.bl true) []) : Ens (mDef 3 2 (b_law_same m) [d, d] []) Q := by
  refine ens_def [some d, some d, none] rfl ?_
  unfold b_law_same
  cases d with
  | non =>
    repeat walk_at "es8"
    refine en_isi2F rfl ?_
    repeat walk_at "es8"
    exact q
  | bl b =>
    repeat walk_at "es8"
    refine en_isi2F rfl ?_
    repeat walk_at "es8"
    cases b <;> exact ens_red rfl q
  | int i =>
    repeat walk_at "es8"
    refine en_isi2F rfl ?_
    repeat walk_at "es8"
    rw [decide_eq_true rfl]; exact q
  | str x =>
    repeat walk_at "es8"
    refine en_isi2F rfl ?_
    repeat walk_at "es8"
    rw [decide_eq_true rfl]; exact q
  | _ => cases h
theorem at_nat' {α : Type} {l : List α} {j : Nat} (h : j < l.length) : atI l (j : Int) = some l[j] := by
  have e : ixN l.length (j : Int) = some j := by
    unfold ixN
    rw [if_pos (by omega), if_pos (by omega), Int.toNat_natCast]
  unfold atI
  rw [e]
  exact List.getElem?_eq_getElem h
theorem same_all {d : D} {ds : List D} {m : List D → Sto → MM D} {a : Option D} (hd : d = .lst ds ∨ d = .tup ds) (hl : ds.length ≤ 1000000) (hi : ∀ x ∈ ds, ∀ {Q : D → Sto → Prop}, Q (.bl true) st → Ens (callB 2 m [x, x] st) Q) {Q : List D → Sto → Prop} (q : Q (List.replicate ds.length (.bl true)) st) :
    Ens (lcL (gNm 2) tYesD (mCall (callB 2 m) (mCons (mBin gIx (mVar 0) (mVar 2)) (mCons (mBin gIx (mVar 1) (mVar 2)) mNil))) [some d, some d, a] (rngD 0 ds.length) [] st) Q := by
  have el : (rngD 0 ds.length).length = ds.length := by unfold rngD; rw [List.length_map, List.length_range]
  refine lc_inv (fun k es s => es = List.replicate k (.bl true) ∧ s = st) (rngD 0 ds.length) 0 [] st ⟨rfl, rfl⟩ (by rw [el]; simpa using hl) (fun j x es s hx hI => ?_) (fun es s hI => ?_)
  · obtain ⟨rfl, rfl⟩ := hI
    obtain ⟨hj, rfl⟩ := rng_lt hx
    have e0 : (0 : Int) + (j : Int) = (j : Int) := by omega
    rw [e0]
    have e1 := at_nat' (l := ds) hj
    have ix : ∀ {Q : D → Sto → Prop}, Q ds[j] s → Ens (gIx s d (.int (j : Int))) Q := fun qq => by
      rcases hd with rfl | rfl
      · exact ens_ix rfl e1 qq
      · exact ens_ixT e1 qq
    repeat walk_at "es8"
    refine ix ?_
    repeat walk_at "es8"
    refine ix ?_
    repeat walk_at "es8"
    refine hi _ (List.getElem_mem hj) ?_
    exact ⟨by rw [List.replicate_succ'], rfl⟩
  · obtain ⟨rfl, rfl⟩ := hI
    rw [Nat.zero_add, el]
    exact q
theorem same_node {d : D} {ds : List D} {m : List D → Sto → MM D} (hd : d = .lst ds ∨ d = .tup ds) (hl : ds.length ≤ 1000000) (hi : ∀ x ∈ ds, ∀ {Q : D → Sto → Prop}, Q (.bl true) [] → Ens (callB 2 m [x, x] []) Q) {Q : D → Sto → Prop} (q : Q (.bl true) []) : Ens (mDef 3 2 (b_law_same m) [d, d] []) Q := by
  refine ens_def [some d, some d, none] rfl ?_
  unfold b_law_same
  rcases hd with rfl | rfl
  · repeat walk_at "es8"
    refine en_isi2T rfl ?_
    repeat walk_at "es8"
    refine ens_red (x := .bl false) rfl ?_
    repeat walk_at "es8"
    refine ens_red (x := .bl false) rfl ?_
    repeat walk_at "es8"
    refine ⟨by omega, ?_⟩
    refine same_all (.inl rfl) hl (fun x m Q => hi x m) ?_
    repeat walk_at "es8"
    refine en_allR ?_
    exact q
  · repeat walk_at "es8"
    refine en_isi2T rfl ?_
    repeat walk_at "es8"
    refine ens_red (x := .bl false) rfl ?_
    repeat walk_at "es8"
    refine ens_red (x := .bl false) rfl ?_
    repeat walk_at "es8"
    refine ⟨by omega, ?_⟩
    refine same_all (.inr rfl) hl (fun x m Q => hi x m) ?_
    repeat walk_at "es8"
    refine en_allR ?_
    exact q
theorem r_same : ∀ (n : Nat) (d : D), sOk n d = true → ∀ {st : Sto} {Q : D → Sto → Prop}, Q (.bl true) st → Ens (callB 2 (m_law_same (n + 1)) [d, d] st) Q
  | 0, d, h, st, Q, q => ens_B0 rfl (by cases d <;> first | rfl | cases h) (by have := sOk_pf _ _ h; simp [pfs, this]) (same_leaf _ h ⟨rfl, q⟩)
  | n + 1, d, h, st, Q, q => by
    have hp := sOk_pf _ _ h
    cases d with
    | lst ds =>
      rw [sOk, Bool.and_eq_true, List.all_eq_true, decide_eq_true_eq] at h
      exact ens_B0 rfl rfl (by simp [pfs, hp]) (same_node (.inl rfl) h.1 (fun x m Q => r_same n x (h.2 x m)) ⟨rfl, q⟩)
    | tup ds =>
      rw [sOk, Bool.and_eq_true, List.all_eq_true, decide_eq_true_eq] at h
      exact ens_B0 rfl rfl (by simp [pfs, hp]) (same_node (.inr rfl) h.1 (fun x m Q => r_same n x (h.2 x m)) ⟨rfl, q⟩)
    | non => exact ens_B0 rfl rfl rfl (same_leaf _ rfl ⟨rfl, q⟩)
    | bl b => exact ens_B0 rfl rfl rfl (same_leaf _ rfl ⟨rfl, q⟩)
    | int i => exact ens_B0 rfl rfl rfl (same_leaf _ rfl ⟨rfl, q⟩)
    | str x => exact ens_B0 rfl rfl rfl (same_leaf _ rfl ⟨rfl, q⟩)
    | _ => cases h
end
section
open PySem PySem.Spec L2 M
variable {st : Sto}
/-! blocks by their number -/
def tx (w : Str) : D := .lst [.tup [.str "text", .str "text", .str w]]
def bkN : Nat → D
  | 0 => .tup [.str "para", tx "a"]
  | 1 => .tup [.str "para", tx "b"]
  | 2 => .tup [.str "para", tx "c"]
  | 3 => .tup [.str "head", .int 1, tx "a", .str ""]
  | 4 => .tup [.str "head", .int 1, tx "b", .str ""]
  | 5 => .tup [.str "head", .int 1, tx "c", .str ""]
  | 6 => .tup [.str "page"]
  | _ => .tup [.str "contents"]
def bD (i : Fin 8) : D := bkN i.val
theorem b_all {P : Fin 8 → Prop} (h0 : P 0) (h1 : P 1) (h2 : P 2) (h3 : P 3) (h4 : P 4) (h5 : P 5) (h6 : P 6) (h7 : P 7) : ∀ i, P i := fun i => by
  have : i = 0 ∨ i = 1 ∨ i = 2 ∨ i = 3 ∨ i = 4 ∨ i = 5 ∨ i = 6 ∨ i = 7 := by omega
  rcases this with rfl | rfl | rfl | rfl | rfl | rfl | rfl | rfl <;> assumption
theorem pf_b : ∀ i, pf (bD i) = true := b_all rfl rfl rfl rfl rfl rfl rfl rfl
theorem pfs_b (l : List (Fin 8)) : pfs (l.map bD) = true := by
  induction l with
  | nil => rfl
  | cons x r ih => rw [List.map_cons, pfs, pf_b, ih]; rfl
theorem s_block {C : Cell} (hC : Dr C) {Q : D → Sto → Prop} (q : ∀ i C', Dr C' → Q (bD i) (some C' :: st)) : Ens (callB 1 m_law_block [.ptr 0] (some C :: st)) Q := by
  refine ens_B1 rfl rfl (pf_dr hC) ?_
  unfold m_law_block
  refine ens_def [some (.ptr 0), none] rfl ?_
  unfold b_law_block
  have e3 : ∀ v : Int, 0 ≤ v → v < 3 → v = 0 ∨ v = 1 ∨ v = 2 := fun v a b => by omega
  have e4 : ∀ v : Int, 0 ≤ v → v < 4 → v = 0 ∨ v = 1 ∨ v = 2 ∨ v = 3 := fun v a b => by omega
  have fin : ∀ (i : Fin 8) C', Dr C' → ∃ c' rest, [some C'] = some c' :: rest ∧ pfC c' = true ∧ pf (bD i) = true ∧ Q (bD i) (some c' :: st) := fun i C' h => ⟨C', [], rfl, pf_dr h, pf_b i, q i C' h⟩
  repeat walk_at "es8"
  refine s_drawB (by decide) (by decide) hC fun v C1 h0 h1 d1 => ?_
  rcases e3 v h0 h1 with rfl | rfl | rfl
  · refine ens_ix rfl rfl ?_
    repeat walk_at "es8"
    refine s_drawB (by decide) (by decide) d1 fun v C2 h0 h1 d2 => ?_
    rcases e4 v h0 h1 with rfl | rfl | rfl | rfl
    · exact ens_ix rfl rfl (fin 0 C2 d2)
    · exact ens_ix rfl rfl (fin 3 C2 d2)
    · exact ens_ix rfl rfl (fin 6 C2 d2)
    · exact ens_ix rfl rfl (fin 7 C2 d2)
  · refine ens_ix rfl rfl ?_
    repeat walk_at "es8"
    refine s_drawB (by decide) (by decide) d1 fun v C2 h0 h1 d2 => ?_
    rcases e4 v h0 h1 with rfl | rfl | rfl | rfl
    · exact ens_ix rfl rfl (fin 1 C2 d2)
    · exact ens_ix rfl rfl (fin 4 C2 d2)
    · exact ens_ix rfl rfl (fin 6 C2 d2)
    · exact ens_ix rfl rfl (fin 7 C2 d2)
  · refine ens_ix rfl rfl ?_
    repeat walk_at "es8"
    refine s_drawB (by decide) (by decide) d1 fun v C2 h0 h1 d2 => ?_
    rcases e4 v h0 h1 with rfl | rfl | rfl | rfl
    · exact ens_ix rfl rfl (fin 2 C2 d2)
    · exact ens_ix rfl rfl (fin 5 C2 d2)
    · exact ens_ix rfl rfl (fin 6 C2 d2)
    · exact ens_ix rfl rfl (fin 7 C2 d2)
theorem rngD_len (lo : Int) (n : Nat) : (rngD lo n).length = n := by unfold rngD; rw [List.length_map, List.length_range]
/-- the list [_law_block(draws) for k in ..], draws in slot i -/
theorem s_blocks {i k : Nat} {sl : Sl} (hi : ∀ d : Option D, gv (sl.set k d) i = some (.ptr 0)) {C : Cell} (hC : Dr C) (n : Nat) (hn : n ≤ 1000) {Q : List D → Sto → Prop} (q : ∀ (l : List (Fin 8)) C', l.length = n → Dr C' → Q (l.map bD) (some C' :: st)) :
    Ens (lcL (gNm k) tYesD (mCall (callB 1 m_law_block) (mCons (mVar i) mNil)) sl (rngD 0 n) [] (some C :: st)) Q := by
  refine lc_inv (fun k es s => ∃ (l : List (Fin 8)) (C' : Cell), l.length = k ∧ Dr C' ∧ es = l.map bD ∧ s = some C' :: st) (rngD 0 n) 0 [] _ ⟨[], C, rfl, hC, rfl, rfl⟩ (by rw [rngD_len]; simp; omega) (fun j d es s e hI => ?_) fun es s hI => ?_
  · obtain ⟨l, C', hl, hd, rfl, rfl⟩ := hI
    refine en_gNm (en_yes ⟨fun _ => ?_, fun z => by cases z⟩)
    refine ens_call (ens_cons (ens_var (hi _) (ens_nil ?_)))
    refine s_block hd fun i C2 h2 => ?_
    exact ⟨l ++ [i], C2, by simp [hl], h2, by simp, rfl⟩
  · obtain ⟨l, C', hl, hd, rfl, rfl⟩ := hI
    rw [rngD_len, Nat.zero_add] at hl
    exact q l C' hl hd
/-- an edit -/
abbrev eD (a r : Nat) (bs : List (Fin 8)) : D := .tup [.str "edit", .int a, .int r, .lst (bs.map bD)]
theorem s_edit {doc : List (Fin 8)} (hl : doc.length ≤ 100) {C : Cell} (hC : Dr C) {Q : D → Sto → Prop} (q : ∀ a r bs C', a + r ≤ doc.length → bs.length ≤ 3 → Dr C' → Q (eD a r bs) (some C' :: st)) : Ens (callB 2 m_law_edit [.ptr 0, .lst (doc.map bD)] (some C :: st)) Q := by
  refine ens_B1 rfl (by rw [pfs, pf, pfs_b]; rfl) (pf_dr hC) ?_
  unfold m_law_edit
  refine ens_def [some (.ptr 0), some (.lst (doc.map bD)), none, none, none] rfl ?_
  unfold b_law_edit
  repeat walk_at "es8"
  refine s_drawB (by rw [List.length_map]; omega) (by rw [List.length_map]; omega) hC fun a C1 h0 h1 d1 => ?_
  rw [List.length_map] at h1
  repeat walk_at "es8"
  refine s_drawB (by rw [List.length_map]; omega) (by rw [List.length_map]; omega) d1 fun r C2 g0 g1 d2 => ?_
  rw [List.length_map] at g1
  repeat walk_at "es8"
  refine s_drawB (by decide) (by decide) d2 fun n C3 k0 k1 d3 => ?_
  refine ens_nil ⟨n, rfl, by omega, ?_⟩
  refine s_blocks (fun d => rfl) d3 n.toNat (by omega) fun l C4 hl4 d4 => ?_
  repeat walk_at "es8"
  have ea : a = ((a.toNat : Nat) : Int) := by omega
  have er : r = ((r.toNat : Nat) : Int) := by omega
  rw [ea, er]
  exact ⟨C4, [], rfl, pf_dr d4, by rw [pf, pfs, pfs, pfs, pfs, pf, pf, pf, pf, pfs_b]; rfl, q a.toNat r.toNat l C4 (by omega) (by omega) d4⟩
end
section
open PySem PySem.Spec L2 M
variable {st : Sto}
theorem sIx_n {n d a : Nat} (h : a ≤ n) : HT.sIx n d (some (a : Int)) = a := by rw [HT.sIx_nat, Nat.min_eq_left h]
theorem cut_lh {α : Type} {f : α → D} (xs : List α) (s a : Nat) (h : s ≤ a) (ha : a ≤ xs.length) : cutD (xs.map f) (some (s : Int)) (some (a : Int)) = ((xs.drop s).take (a - s)).map f := by
  unfold cutD
  rw [List.length_map, sIx_n ha, sIx_n (Nat.le_trans h ha), List.map_take, List.map_drop]
theorem cut_h {α : Type} {f : α → D} (xs : List α) (a : Nat) (ha : a ≤ xs.length) : cutD (xs.map f) none (some (a : Int)) = (xs.take a).map f := by
  unfold cutD
  rw [List.length_map, sIx_n ha]
  show ((xs.map f).drop 0).take (a - 0) = _
  rw [List.drop_zero, Nat.sub_zero, List.map_take]
theorem cut_l {α : Type} {f : α → D} (xs : List α) (a : Nat) (ha : a ≤ xs.length) : cutD (xs.map f) (some (a : Int)) none = (xs.drop a).map f := by
  unfold cutD
  rw [List.length_map, sIx_n ha]
  show ((xs.map f).drop a).take (xs.length - a) = _
  rw [List.take_of_length_le (by rw [List.length_drop, List.length_map]; exact Nat.le_refl _), List.map_drop]
theorem en_df {P : Prop} {d : Decidable P} {A B : Prop} (n : ¬ P) (h : B) : (@decide P d = true → A) ∧ (@decide P d = false → B) := ⟨fun z => absurd (of_decide_eq_true z) n, fun _ => h⟩
theorem en_dt {P : Prop} {d : Decidable P} {A B : Prop} (n : P) (h : A) : (@decide P d = true → A) ∧ (@decide P d = false → B) := ⟨fun _ => h, fun z => absurd n (of_decide_eq_false z)⟩
/-! the law's own reading of an edit -/
def rowsAt (doc : List (Fin 8)) (a r : Nat) (bs : List (Fin 8)) (k : Nat) : List (Fin 8) := if k ≤ a then doc.take k else doc.take a ++ bs ++ (doc.take k).drop (a + r)
def aft (doc : List (Fin 8)) (a r : Nat) (bs : List (Fin 8)) : List (Fin 8) := doc.take a ++ bs ++ doc.drop (a + r)
theorem td_succ {α : Type} (l : List α) (k m : Nat) {x : α} (e : l[k]? = some x) : (l.take (k + 1)).drop m = (l.take k).drop m ++ (if m ≤ k then [x] else []) := by
  have hk : k < l.length := (List.getElem?_eq_some_iff.mp e).1
  have lt : (l.take k).length = k := by rw [List.length_take]; omega
  rw [List.take_succ, e]
  show (l.take k ++ [x]).drop m = _
  by_cases h : m ≤ k
  · rw [if_pos h, List.drop_append_of_le_length (by rw [lt]; exact h)]
  · rw [if_neg h, List.append_nil, List.drop_eq_nil_of_le (by rw [List.length_append, lt]; simp; omega), List.drop_eq_nil_of_le (by rw [lt]; omega)]
theorem rowsAt_end {doc : List (Fin 8)} {a r : Nat} (bs : List (Fin 8)) (h : a + r ≤ doc.length) : rowsAt doc a r bs (doc.length + 1) = aft doc a r bs := by
  unfold rowsAt aft
  rw [if_neg (by omega), List.take_of_length_le (Nat.le_succ _)]
theorem aft_len {doc : List (Fin 8)} {a r : Nat} {bs : List (Fin 8)} (h : a + r ≤ doc.length) : (aft doc a r bs).length = doc.length - r + bs.length := by
  unfold aft
  rw [List.length_append, List.length_append, List.length_take, List.length_drop]; omega
theorem r_after {doc : List (Fin 8)} {a r : Nat} {bs : List (Fin 8)} (hl : doc.length ≤ 100) (h : a + r ≤ doc.length) (hb : bs.length ≤ 100) {Q : D → Sto → Prop} (q : Q (.lst ((aft doc a r bs).map bD)) st) : Ens (callB 2 m_law_after [.lst (doc.map bD), eD a r bs] st) Q := by
  refine ens_B0 rfl rfl (by unfold eD; simp only [pfs, pf, pfs_b]; rfl) ?_
  unfold m_law_after
  refine ens_def [some (.lst (doc.map bD)), some (eD a r bs), none, none] rfl ?_
  unfold b_law_after
  repeat walk_at "es8"
  refine ⟨by rw [List.length_map]; omega, ?_⟩
  rw [List.length_map]
  refine ens_for0 (fun k sl s => ∃ x, sl = [some (.lst (doc.map bD)), some (eD a r bs), some (.ptr 0), x] ∧ s = [some (.lst ((rowsAt doc a r bs k).map bD))]) ⟨none, rfl, by unfold rowsAt; rw [if_pos (Nat.zero_le _)]; rfl⟩ (fun k d sl s hd hI => ?_) (fun sl s hI => ?_)
  · obtain ⟨x, rfl, rfl⟩ := hI
    obtain ⟨hk, rfl⟩ := rng_lt hd
    rw [Int.zero_add]
    have hk : k ≤ doc.length := by omega
    have gn := en_gNm (i := 3) (d := D.int (k : Int)) (sl := [some (.lst (doc.map bD)), some (eD a r bs), some (.ptr 0), x]) (st := [some (.lst ((rowsAt doc a r bs k).map bD))]) (N := fun sl s => sl = [some (.lst (doc.map bD)), some (eD a r bs), some (.ptr 0), some (.int (k : Int))] ∧ s = [some (.lst ((rowsAt doc a r bs k).map bD))]) ⟨rfl, rfl⟩
    refine gn.imp fun sl s ⟨e1, e2⟩ => ?_
    subst e1 e2
    have rl : (rowsAt doc a r bs k).length ≤ 300 := by
      unfold rowsAt
      split
      · rw [List.length_take]; omega
      · rw [List.length_append, List.length_append, List.length_take, List.length_drop, List.length_take]; omega
    -- the row appended
    have two : ∀ R : List (Fin 8), R.length ≤ 500 → (R ++ (if h : k < doc.length then (if k < a ∨ a + r ≤ k then [doc[k]] else []) else []) = rowsAt doc a r bs (k + 1)) → EnsS ((sIf (mAnd (mB (mBin gLt (mVar 3) (mCB cLen (mCons (mVar 0) mNil)))) (mOr (mB (mBin gLt (mVar 3) (mBin gIx (mVar 1) (mC (.int 1))))) (mB (mBin gGe (mVar 3) (mBin (gAdd false) (mBin gIx (mVar 1) (mC (.int 1))) (mBin gIx (mVar 1) (mC (.int 2))))))))
    (sDrop (mBM "list" gAppend (mVar 2) (mCons (mBin gIx (mVar 0) (mVar 3)) mNil)))
    sNext) [some (.lst (doc.map bD)), some (eD a r bs), some (.ptr 0), some (.int (k : Int))] [some (.lst (R.map bD))]) (fun sl s => ∃ x, sl = [some (.lst (doc.map bD)), some (eD a r bs), some (.ptr 0), x] ∧ s = [some (.lst ((rowsAt doc a r bs (k + 1)).map bD))]) (fun d cs => pf d = true ∧ Q d st) := by
      intro R hR eR
      have app : (k < doc.length) → (k < a ∨ a + r ≤ k) → EnsS (sDrop (mBM "list" gAppend (mVar 2) (mCons (mBin gIx (mVar 0) (mVar 3)) mNil)) [some (.lst (doc.map bD)), some (eD a r bs), some (.ptr 0), some (.int (k : Int))] [some (.lst (R.map bD))]) (fun sl s => ∃ x, sl = [some (.lst (doc.map bD)), some (eD a r bs), some (.ptr 0), x] ∧ s = [some (.lst ((rowsAt doc a r bs (k + 1)).map bD))]) (fun d cs => pf d = true ∧ Q d st) := fun h1 h2 => by
        rw [dif_pos h1, if_pos h2] at eR
        repeat walk_at "es8"
        refine ens_ix rfl (at_nat (by rw [List.getElem?_map, List.getElem?_eq_getElem h1]; rfl)) ?_
        repeat walk_at "es8"
        refine ens_app rfl (by rw [List.length_map]; unfold PySem.sizeLine; omega) ?_
        refine ⟨_, rfl, ?_⟩
        show [some (Cell.lst (R.map bD ++ [bD doc[k]]))] = _
        rw [← eR, List.map_append]; rfl
      have non : ¬ (k < doc.length ∧ (k < a ∨ a + r ≤ k)) → [some (Cell.lst (R.map bD))] = [some (.lst ((rowsAt doc a r bs (k + 1)).map bD))] := fun h => by
        have : R ++ [] = rowsAt doc a r bs (k + 1) := by
          rw [← eR]
          by_cases h1 : k < doc.length
          · rw [dif_pos h1, if_neg fun h2 => h ⟨h1, h2⟩]
          · rw [dif_neg h1]
        rw [← this, List.append_nil]
      repeat walk_at "es8"
      rw [List.length_map]
      refine ⟨fun z => ?_, fun z => ?_⟩
      · have z := of_decide_eq_true z
        repeat walk_at "es8"
        refine ⟨fun z2 => ?_, fun z2 => ?_⟩
        · have z2 := of_decide_eq_true z2
          refine en_T ?_
          exact app (by omega) (Or.inl (by omega))
        · have z2 := of_decide_eq_false z2
          repeat walk_at "es8"
          refine ⟨fun z3 => ?_, fun z3 => ?_⟩
          · have z3 := of_decide_eq_true z3
            exact app (by omega) (Or.inr (by omega))
          · have z3 := of_decide_eq_false z3
            exact ens_next ⟨_, rfl, non (by omega)⟩
      · have z := of_decide_eq_false z
        refine en_F ?_
        exact ens_next ⟨_, rfl, non (by omega)⟩
    have lk : ∀ m, k < doc.length → (doc.take (k + 1)).drop m = (doc.take k).drop m ++ (if m ≤ k then [doc[k]!] else []) := fun m h1 => td_succ doc k m (by rw [List.getElem?_eq_getElem h1, getElem!_pos doc k h1])
    repeat walk_at "es8"
    refine ⟨fun z => ?_, fun z => ?_⟩
    · have z := of_decide_eq_true z
      have ek : k = a := by omega
      subst ek
      repeat walk_at "es8"
      refine ens_ext rfl rfl (by rw [List.length_map, List.length_map]; omega) ?_
      have e0 : rowsAt doc k r bs k = doc.take k := by unfold rowsAt; rw [if_pos (Nat.le_refl _)]
      rw [e0] at rl ⊢
      show EnsS (sIf _ _ _ _ [some (Cell.lst ((doc.take k).map bD ++ bs.map bD))]) _ _
      rw [← List.map_append]
      refine two (doc.take k ++ bs) (by rw [List.length_append]; omega) ?_
      unfold rowsAt
      rw [if_neg (by omega)]
      by_cases h1 : k < doc.length
      · rw [dif_pos h1, td_succ doc k (k + r) (List.getElem?_eq_getElem h1), List.drop_eq_nil_of_le (by rw [List.length_take]; omega), List.nil_append]
        by_cases h2 : k + r ≤ k
        · rw [if_pos (Or.inr h2), if_pos h2]
        · rw [if_neg (by omega), if_neg h2]
      · rw [dif_neg h1, List.append_nil, List.drop_eq_nil_of_le (by rw [List.length_take]; omega), List.append_nil]
    · have z := of_decide_eq_false z
      refine ens_next (two _ (by omega) ?_)
      unfold rowsAt
      by_cases h3 : k < a
      · have h1 : k < doc.length := by omega
        rw [if_pos (by omega), if_pos (by omega), dif_pos h1, if_pos (Or.inl h3), List.take_succ, List.getElem?_eq_getElem h1]; rfl
      · rw [if_neg (by omega), if_neg (by omega)]
        by_cases h1 : k < doc.length
        · rw [dif_pos h1, td_succ doc k (a + r) (List.getElem?_eq_getElem h1), ← List.append_assoc]
          by_cases h2 : a + r ≤ k
          · rw [if_pos (Or.inr h2), if_pos h2]
          · rw [if_neg (by omega), if_neg h2]
        · rw [dif_neg h1, List.append_nil, List.take_of_length_le (i := k) (by omega), List.take_of_length_le (i := k + 1) (by omega)]
  · obtain ⟨x, rfl, rfl⟩ := hI
    rw [rngD_len]
    have e : ((doc.length : Int) + 1).toNat = doc.length + 1 := by omega
    rw [e, rowsAt_end bs h]
    repeat walk_at "es8"
    exact ⟨by rw [pf, pfs_b], q⟩
end
section
open PySem PySem.Spec L2 M
variable {st : Sto} {cs : Cs}
theorem ez_retE {f : FE} {sl : Sl} {N : Sl → Sto → Prop} {R : D → Sto → Prop} {X : Exn → Prop} (h : EnsZ (f sl st) R X) : EnsZS (sRet f sl st) N R X := ez_bnd (h.imp fun d s q => q)
theorem ez_no {τ υ : Type} {m : MM υ} {k : υ → Sto → MM τ} {Q : τ → Sto → Prop} {X : Exn → Prop} (h : EnsZ m (fun _ _ => False) X) : EnsZ (bnd m k) Q X := ez_bnd (h.imp fun _ _ q => q.elim)
theorem ez_raise0 {C : Addr} {f : FE} {sl : Sl} {N : Sl → Sto → Prop} {R : D → Sto → Prop} {X : Exn → Prop} (h : Ens (f sl st) fun _ _ => X ⟨C, []⟩) : EnsZS (sRaise0 C f sl st) N R X := by
  obtain ⟨x, s, e, q⟩ := h
  show EnsZS (bnd (f sl st) fun _ st => some (.exc ⟨C, []⟩ st)) N R X
  rw [e]
  exact q
/-! numbers in a text -/
theorem ens_JSx {f : FE} {fs : List FE} {acc : Str} {sl : Sl} {Q : D → Sto → Prop} (n : Nat) (ha : acc.length ≤ n) (hn : n ≤ 100000) (h : Ens (f sl st) fun x s => ∃ b : Str, x = .str b ∧ b.length ≤ 100 ∧ ∀ acc' : Str, acc'.length ≤ n + 100 → Ens (mJs fs acc' sl s) Q) : Ens (mJs (f :: fs) acc sl st) Q := by
  refine ens_bnd (h.imp fun x s ⟨b, e, hb, q⟩ => ?_)
  subst e
  have hl : (acc ++ b).length ≤ n + 100 := by rw [Str.length_append]; omega
  exact ens_ite (by unfold PySem.sizeLine; omega) (q _ hl)
theorem ens_fmtX {f : FE} {sl : Sl} {i : Int} {Q : D → Sto → Prop} (h0 : -1 ≤ i) (h1 : i ≤ 300) (h : Ens (f sl st) fun x s => x = .int i ∧ ∀ b : Str, b.length ≤ 100 → Q (.str b) s) : Ens (mFmt f sl st) Q := by
  refine ens_bnd (h.imp fun x s ⟨e, q⟩ => ?_)
  subst e
  have lg : i.natAbs.log2 < 1920 := by
    have : i.natAbs < 2 ^ 9 := by omega
    by_cases z : i.natAbs = 0
    · rw [z]; decide
    · have := (Nat.log2_lt z).mpr this
      omega
  refine ens_ite lg (ens_ret (q _ ?_))
  have all : ∀ k : Fin 302, ((toString ((k.val : Int) - 1) : String) : Str).length ≤ 100 := by decide +kernel
  have := all ⟨(i + 1).toNat, by omega⟩
  have e : (((i + 1).toNat : Nat) : Int) - 1 = i := by omega
  simp only [e] at this
  exact this
/-- an edit of any numbers -/
abbrev wD (x y : Int) (bs : List (Fin 8)) : D := .tup [.str "edit", .int x, .int y, .lst (bs.map bD)]
theorem pf_w (x y : Int) (bs : List (Fin 8)) : pf (wD x y bs) = true := by unfold wD; simp only [pfs, pf, pfs_b]; rfl
theorem pf_dw (doc : List (Fin 8)) (x y : Int) (bs : List (Fin 8)) : pfs [.lst (doc.map bD), wD x y bs] = true := by simp only [pfs, pf, pfs_b]; rfl
theorem r_removed {doc : List (Fin 8)} {a r : Nat} {bs : List (Fin 8)} (h : a + r ≤ doc.length) {Q : D → Sto → Prop} (q : Q (.lst (((doc.drop a).take r).map bD)) st) : Ens (callB 2 (m_removed_blocks cs) [.lst (doc.map bD), wD a r bs] st) Q := by
  refine ens_B0 rfl rfl (pf_dw doc _ _ bs) ?_
  unfold m_removed_blocks
  refine ens_def [some (.lst (doc.map bD)), some (wD a r bs), none, none, none] rfl ?_
  unfold b_removed_blocks wD
  repeat walk_at "es8"
  refine en_df (by omega) ?_
  repeat walk_at "es8"
  refine en_df (by omega) ?_
  repeat walk_at "es8"
  rw [List.length_map]
  refine en_df (by omega) ?_
  repeat walk_at "es8"
  rw [show (a : Int) + (r : Int) = ((a + r : Nat) : Int) by omega, cut_lh doc a (a + r) (by omega) h, Nat.add_sub_cancel_left]
  exact ⟨by rw [pf, pfs_b], q⟩
theorem r_removedX {doc : List (Fin 8)} (hl : doc.length ≤ 100) {x y : Int} {bs : List (Fin 8)} (hx : -1 ≤ x ∧ x ≤ 150) (hy : -1 ≤ y ∧ y ≤ 150) (h : x < 0 ∨ y < 0 ∨ doc.length < x + y) : EnsZ (callB 2 (m_removed_blocks cs) [.lst (doc.map bD), wD x y bs] st) (fun _ _ => False) fun e => e = ⟨cs.C "EditError", []⟩ := by
  refine (ez_B0 (Q := fun _ _ => False) rfl rfl (pf_dw doc _ _ bs) ?_).imp fun _ _ z => z
  unfold m_removed_blocks
  refine ez_def [some (.lst (doc.map bD)), some (wD x y bs), none, none, none] rfl ?_
  unfold b_removed_blocks
  have ra : EnsZS (sRaise0 (cs.C "EditError") (mJs [(mFmt (mVar 4)), (mC (.str " blocks from ")), (mFmt (mVar 3)), (mC (.str " on are not in a document of ")), (mFmt (mCB cLen (mCons (mVar 0) mNil))), (mC (.str " blocks"))] Str.empty) [some (.lst (doc.map bD)), some (wD x y bs), some (.lst (bs.map bD)), some (.int x), some (.int y)] [])
      (fun sl st => EnsZS (sRet (mSl false (mVar 0) (mPart (mVar 3)) (mPart (mBin (gAdd false) (mVar 3) (mVar 4)))) sl st) (fun _ _ => pf D.non = true ∧ False) (fun d _ => pf d = true ∧ False) fun e => pfX e = true ∧ e = ⟨cs.C "EditError", []⟩) (fun d _ => pf d = true ∧ False) fun e => pfX e = true ∧ e = ⟨cs.C "EditError", []⟩ := by
    refine ez_raise0 ?_
    have s1 : (" blocks from " : Str).length ≤ 100 := by decide +kernel
    have s2 : (" on are not in a document of " : Str).length ≤ 100 := by decide +kernel
    have s3 : (" blocks" : Str).length ≤ 100 := by decide +kernel
    refine ens_JSx 0 (Nat.le_refl 0) (by omega) (ens_fmtX hy.1 (by omega) (ens_var rfl ⟨rfl, fun b hb => ⟨b, rfl, hb, fun a1 h1 => ?_⟩⟩))
    refine ens_JSx _ h1 (by omega) (ens_C ⟨_, rfl, s1, fun a2 h2 => ?_⟩)
    refine ens_JSx _ h2 (by omega) (ens_fmtX hx.1 (by omega) (ens_var rfl ⟨rfl, fun b hb => ⟨b, rfl, hb, fun a3 h3 => ?_⟩⟩))
    refine ens_JSx _ h3 (by omega) (ens_C ⟨_, rfl, s2, fun a4 h4 => ?_⟩)
    refine ens_JSx _ h4 (by omega) (ens_fmtX (i := (doc.length : Int)) (by omega) (by omega) (ens_CB (ens_cons (ens_var rfl (ens_nil (en_lenL ⟨by rw [List.length_map], fun b hb => ⟨b, rfl, hb, fun a5 h5 => ?_⟩⟩))))))
    refine ens_JSx _ h5 (by omega) (ens_C ⟨_, rfl, s3, fun a6 h6 => ?_⟩)
    exact ens_ret ⟨rfl, rfl⟩
  refine ez_seq (ez_S ?_)
  unfold wD at ra ⊢
  repeat walk_at "es8"
  refine ez_seq (ez_if ?_)
  repeat walk_at "es8"
  refine ⟨fun z => ⟨fun _ => ra, fun z => by cases z⟩, fun z => ?_⟩
  have z := of_decide_eq_false z
  repeat walk_at "es8"
  refine ⟨fun z2 => ⟨fun _ => ra, fun z => by cases z⟩, fun z2 => ?_⟩
  have z2 := of_decide_eq_false z2
  repeat walk_at "es8"
  refine ⟨fun _ => ra, fun z3 => ?_⟩
  have z3 := of_decide_eq_false z3
  rw [List.length_map] at z3
  omega
theorem r_applied {doc : List (Fin 8)} {a r : Nat} {bs : List (Fin 8)} (hl : doc.length ≤ 100) (hb : bs.length ≤ 100) (h : a + r ≤ doc.length) {Q : D → Sto → Prop} (q : Q (.lst ((aft doc a r bs).map bD)) st) : Ens (callB 2 (m_applied cs) [.lst (doc.map bD), wD a r bs] st) Q := by
  refine ens_B0 rfl rfl (pf_dw doc _ _ bs) ?_
  unfold m_applied
  refine ens_def [some (.lst (doc.map bD)), some (wD a r bs), none, none, none, none] rfl ?_
  unfold b_applied
  repeat walk_at "es8"
  refine r_removed h ?_
  unfold wD
  repeat walk_at "es8"
  rw [cut_h doc a (by omega)]
  refine M.en_addL ⟨by rw [List.length_map, List.length_map, List.length_take]; omega, ?_⟩
  repeat walk_at "es8"
  rw [List.length_map, List.length_take, List.length_drop, Nat.min_eq_left (by omega), show (a : Int) + (r : Int) = ((a + r : Nat) : Int) by omega, cut_l doc (a + r) h]
  refine M.en_addL ⟨by simp only [List.length_append, List.length_map, List.length_take, List.length_drop]; omega, ?_⟩
  rw [← List.map_append, ← List.map_append]
  exact ⟨by rw [pf, pfs_b], q⟩
theorem r_inverse {doc : List (Fin 8)} {a r : Nat} {bs : List (Fin 8)} (h : a + r ≤ doc.length) {Q : D → Sto → Prop} (q : Q (wD a bs.length ((doc.drop a).take r)) st) : Ens (callB 2 (m_inverse cs) [.lst (doc.map bD), wD a r bs] st) Q := by
  refine ens_B0 rfl rfl (pf_dw doc _ _ bs) ?_
  unfold m_inverse
  refine ens_def [some (.lst (doc.map bD)), some (wD a r bs), none, none, none, none] rfl ?_
  unfold b_inverse
  repeat walk_at "es8"
  refine r_removed h ?_
  unfold wD at q ⊢
  repeat walk_at "es8"
  rw [List.length_map]
  exact ⟨pf_w _ _ _, q⟩
theorem r_appliedX {doc : List (Fin 8)} (hl : doc.length ≤ 100) {x y : Int} {bs : List (Fin 8)} (hx : -1 ≤ x ∧ x ≤ 150) (hy : -1 ≤ y ∧ y ≤ 150) (h : x < 0 ∨ y < 0 ∨ doc.length < x + y) : EnsZ (callB 2 (m_applied cs) [.lst (doc.map bD), wD x y bs] st) (fun _ _ => False) fun e => e = ⟨cs.C "EditError", []⟩ := by
  refine (ez_B0 (Q := fun _ _ => False) rfl rfl (pf_dw doc _ _ bs) ?_).imp fun _ _ z => z
  unfold m_applied
  refine ez_def [some (.lst (doc.map bD)), some (wD x y bs), none, none, none, none] rfl ?_
  unfold b_applied
  refine ez_seq (ez_no ?_)
  show EnsZ (callB 2 (m_removed_blocks cs) [.lst (doc.map bD), wD x y bs] []) (fun _ _ => False) _
  exact ((r_removedX (st := []) hl hx hy h).imp2 (fun _ _ z => z) fun e z => ⟨by rw [z]; rfl, z⟩)
theorem r_inverseX {doc : List (Fin 8)} (hl : doc.length ≤ 100) {x y : Int} {bs : List (Fin 8)} (hx : -1 ≤ x ∧ x ≤ 150) (hy : -1 ≤ y ∧ y ≤ 150) (h : x < 0 ∨ y < 0 ∨ doc.length < x + y) : EnsZ (callB 2 (m_inverse cs) [.lst (doc.map bD), wD x y bs] st) (fun _ _ => False) fun e => e = ⟨cs.C "EditError", []⟩ := by
  refine (ez_B0 (Q := fun _ _ => False) rfl rfl (pf_dw doc _ _ bs) ?_).imp fun _ _ z => z
  unfold m_inverse
  refine ez_def [some (.lst (doc.map bD)), some (wD x y bs), none, none, none, none] rfl ?_
  unfold b_inverse
  refine ez_seq (ez_no ?_)
  show EnsZ (callB 2 (m_removed_blocks cs) [.lst (doc.map bD), wD x y bs] []) (fun _ _ => False) _
  exact ((r_removedX (st := []) hl hx hy h).imp2 (fun _ _ z => z) fun e z => ⟨by rw [z]; rfl, z⟩)
/-! the law's call of one of them -/
abbrev tbl (cs : Cs) : List (Addr × (List D → Sto → MM D)) := [(cs.C "applied", callB 2 (m_applied cs)), (cs.C "inverse", callB 2 (m_inverse cs))]
theorem lk_app : (tbl cs).lookup (cs.C "applied") = some (callB 2 (m_applied cs)) := by
  show (match cs.C "applied" == cs.C "applied" with | true => some (callB 2 (m_applied cs)) | false => _) = _
  rw [beq_self_eq_true]
theorem lk_inv (kn : Kn cs) : (tbl cs).lookup (cs.C "inverse") = some (callB 2 (m_inverse cs)) := by
  show (match cs.C "inverse" == cs.C "applied" with | true => _ | false => (match cs.C "inverse" == cs.C "inverse" with | true => some (callB 2 (m_inverse cs)) | false => _)) = _
  rw [beq_eq_false_iff_ne.mpr kn.n_inverse_applied, beq_self_eq_true]
theorem r_told (kn : Kn cs) {a : Addr} {c : List D → Sto → MM D} (e : (tbl cs).lookup a = some c) {x y : D} (hp : pfs [.fnc a, x, y] = true) {Q : D → Sto → Prop} (h : EnsZ (c [x, y] []) (fun d _ => pf d = true ∧ Q d st) fun e => e = ⟨cs.C "EditError", []⟩ ∧ Q .non st) : Ens (callB 3 (m_law_told cs) [.fnc a, x, y] st) Q := by
  refine ens_B0 rfl rfl hp ?_
  unfold m_law_told
  refine ens_def [some (.fnc a), some x, some y] rfl ?_
  unfold b_law_told
  refine ens_try (ez_retE ?_)
  have e2 : mCallV 0 (tbl cs) (mCons (mVar 1) (mCons (mVar 2) mNil)) [some (.fnc a), some x, some y] [] = c [x, y] [] := by
    show (match (tbl cs).lookup a with
    | some c => bnd ((mCons (mVar 1) (mCons (mVar 2) mNil)) [some (.fnc a), some x, some y] []) c
    | none => none) = _
    rw [e]; rfl
  rw [e2]
  refine h.imp2 (fun d _ q => q) fun ex z => ?_
  obtain ⟨rfl, z⟩ := z
  exact ⟨kn.e_EditError_EditError, .non, rfl, fun _ => ⟨rfl, z⟩⟩
end
section
open PySem PySem.Spec L2 M
variable {st : Sto}
/-! == of blocks and of lists of them -/
def tp (w : Str) : PyData := .list [.tuple [.str "text", .str "text", .str w]]
def bpN : Nat → PyData
  | 0 => .tuple [.str "para", tp "a"]
  | 1 => .tuple [.str "para", tp "b"]
  | 2 => .tuple [.str "para", tp "c"]
  | 3 => .tuple [.str "head", .int 1, tp "a", .str ""]
  | 4 => .tuple [.str "head", .int 1, tp "b", .str ""]
  | 5 => .tuple [.str "head", .int 1, tp "c", .str ""]
  | 6 => .tuple [.str "page"]
  | _ => .tuple [.str "contents"]
def bP (i : Fin 8) : PyData := bpN i.val
theorem py_b : ∀ i, py (bD i) = some (bP i) := b_all (by rfl) (by rfl) (by rfl) (by rfl) (by rfl) (by rfl) (by rfl) (by rfl)
theorem eqv_b : ∀ i j, PyData.eqv (bP i) (bP j) = decide (i = j) := by decide +kernel
theorem shp_b : ∀ i, SeqAt.shaped (bP i) = true := by decide +kernel
theorem cl_b : ∀ i, (bP i).canLay0 = true ∧ (bP i).depth ≤ 10 := by decide +kernel
theorem pys_b (l : List (Fin 8)) : pys (l.map bD) = some (l.map bP) := by
  induction l with
  | nil => rw [List.map_nil, pys]; rfl
  | cons x r ih => rw [List.map_cons, pys, py_b, ih]; rfl
theorem eqvs_b : ∀ a b : List (Fin 8), PyData.eqvAll (a.map bP) (b.map bP) = decide (a = b)
  | [], [] => by simp [PyData.eqvAll]
  | [], y :: s => by simp [PyData.eqvAll]
  | x :: r, [] => by simp [PyData.eqvAll]
  | x :: r, y :: s => by
    rw [List.map_cons, List.map_cons, PyData.eqvAll, eqv_b, eqvs_b r s]
    by_cases h1 : x = y
    · by_cases h2 : r = s
      · simp [h1, h2]
      · simp [h1, h2]
    · simp [h1]
theorem shp_bs (l : List (Fin 8)) : SeqAt.shaped (.list (l.map bP)) = true := by
  have h1 : PyData.canLayAll0 (l.map bP) = true := by
    induction l with
    | nil => rfl
    | cons x r ih => rw [List.map_cons, PyData.canLayAll0, (cl_b x).1, ih]; rfl
  have h2 : PyData.depthAll (l.map bP) ≤ 10 := by
    induction l with
    | nil => rw [List.map_nil, PyData.depthAll]; omega
    | cons x r ih =>
      have h1' : PyData.canLayAll0 (r.map bP) = true := by
        rw [List.map_cons, PyData.canLayAll0, Bool.and_eq_true] at h1
        exact h1.2
      rw [List.map_cons, PyData.depthAll]
      have := (cl_b x).2
      have := ih h1'
      omega
  unfold SeqAt.shaped
  rw [PyData.canLay0, h1, PyData.depth, Bool.true_and]
  exact decide_eq_true (by omega)
theorem en_eqB {i j : Fin 8} {Q : D → Sto → Prop} (q : Q (.bl (decide (i = j))) st) : Ens (gEqD false st (bD i) (bD j)) Q := by
  have e : ∀ i, pyT st (bD i) = some (bP i) := fun i => by
    rw [← py_b i]
    exact b_all (P := fun i => pyT st (bD i) = py (bD i)) rfl rfl rfl rfl rfl rfl rfl rfl i
  unfold gEqD
  rw [e, e]
  refine ens_ite ⟨shp_b i, shp_b j⟩ ?_
  show Ens (M.ret (.bl (PyData.eqv (bP i) (bP j))) st) Q
  rw [eqv_b]
  exact ens_ret q
theorem en_eqBs {a b : List (Fin 8)} {Q : D → Sto → Prop} (q : Q (.bl (decide (a = b))) st) : Ens (gEqD false st (.lst (a.map bD)) (.lst (b.map bD))) Q := by
  have e : ∀ l : List (Fin 8), pyT st (.lst (l.map bD)) = some (.list (l.map bP)) := fun l => by
    show py (.lst (l.map bD)) = _
    rw [py, pys_b]; rfl
  unfold gEqD
  rw [e, e]
  refine ens_ite ⟨shp_bs a, shp_bs b⟩ ?_
  show Ens (M.ret (.bl (PyData.eqv (.list (a.map bP)) (.list (b.map bP)))) st) Q
  rw [PyData.eqv, eqvs_b]
  exact ens_ret q
/-! what two lists have in common at their beginnings -/
def lcp : List (Fin 8) → List (Fin 8) → Nat → Nat
  | x :: r, y :: s, m + 1 => if x = y then lcp r s m + 1 else 0
  | _, _, _ => 0
theorem lcp_le : ∀ (a b : List (Fin 8)) (m : Nat), lcp a b m ≤ m ∧ lcp a b m ≤ a.length ∧ lcp a b m ≤ b.length
  | x :: r, y :: s, m + 1 => by
    have := lcp_le r s m
    rw [lcp]
    split
    · simp only [List.length_cons]; omega
    · omega
  | [], _, _ => by rw [lcp]; omega; all_goals simp
  | _ :: _, [], _ => by rw [lcp]; omega; all_goals simp
  | _ :: _, _ :: _, 0 => by rw [lcp]; omega; all_goals simp
theorem lcp_take : ∀ (a b : List (Fin 8)) (m k : Nat), k ≤ m → k ≤ a.length → k ≤ b.length → (a.take k = b.take k ↔ k ≤ lcp a b m)
  | _, _, _, 0, _, _, _ => by simp
  | [], _, _, k + 1, _, h, _ => by simp at h
  | _ :: _, [], _, k + 1, _, _, h => by simp at h
  | _ :: _, _ :: _, 0, k + 1, h, _, _ => by omega
  | x :: r, y :: s, m + 1, k + 1, h1, h2, h3 => by
    rw [List.take_succ_cons, List.take_succ_cons, lcp]
    simp only [List.length_cons] at h2 h3
    have ih := lcp_take r s m k (by omega) (by omega) (by omega)
    by_cases e : x = y
    · rw [if_pos e, List.cons.injEq, ih]
      constructor
      · intro z; omega
      · intro z; exact ⟨e, by omega⟩
    · rw [if_neg e, List.cons.injEq]
      constructor
      · intro z; exact absurd z.1 e
      · intro z; omega
theorem r_ahead {a b : List (Fin 8)} {m : Nat} (h1 : m ≤ a.length) (h2 : m ≤ b.length) (h3 : m ≤ 1000) {Q : D → Sto → Prop} (q : Q (.int (lcp a b m : Nat)) st) : Ens (callB 3 m_equal_ahead [.lst (a.map bD), .lst (b.map bD), .int m] st) Q := by
  refine ens_B0 rfl rfl (by rw [pfs, pfs, pf, pf, pfs_b, pfs_b]; rfl) ?_
  unfold m_equal_ahead
  refine ens_def [some (.lst (a.map bD)), some (.lst (b.map bD)), some (.int m), none] rfl ?_
  unfold b_equal_ahead
  repeat walk_at "es8"
  have L := lcp_le a b m
  have LT := lcp_take a b m
  generalize hL : lcp a b m = l at *
  refine en_while (fun z sl s => ∃ k : Nat, z + k = l ∧ sl = [some (.lst (a.map bD)), some (.lst (b.map bD)), some (.int m), some (.int k)] ∧ s = []) (fun z sl s hI => ?_) 1000000 l (by omega) ⟨0, by omega, rfl, rfl⟩
  obtain ⟨k, hk, rfl, rfl⟩ := hI
  have tk : a.take k = b.take k := (LT k (by omega) (by omega) (by omega)).mpr (by omega)
  have fin : k = l → EnsS (sRet (mVar 3) [some (.lst (a.map bD)), some (.lst (b.map bD)), some (.int m), some (.int k)] []) (fun _ st_1 => pf D.non = true ∧ Q D.non st) (fun d cs => pf d = true ∧ Q d st) := fun e => by
    repeat walk_at "es8"
    rw [e]
    exact ⟨rfl, q⟩
  repeat walk_at "es8"
  refine ⟨fun c => ?_, fun c => ?_⟩
  · have c := of_decide_eq_true c
    have ka : k < a.length := by omega
    have kb : k < b.length := by omega
    repeat walk_at "es8"
    refine ens_ix rfl (at_nat (by rw [List.getElem?_map, List.getElem?_eq_getElem ka]; rfl)) ?_
    repeat walk_at "es8"
    refine ens_ix rfl (at_nat (by rw [List.getElem?_map, List.getElem?_eq_getElem kb]; rfl)) ?_
    refine en_eqB ⟨_, rfl, ?_⟩
    have st1 : a[k] = b[k] ↔ k + 1 ≤ l := by
      rw [← LT (k + 1) (by omega) (by omega) (by omega), List.take_succ, List.take_succ, tk, List.getElem?_eq_getElem ka, List.getElem?_eq_getElem kb]
      constructor
      · intro e; rw [e]
      · intro e
        have := List.append_cancel_left e
        simpa using this
    refine ⟨fun c2 => ?_, fun c2 => ?_⟩
    · have c2 := st1.mp (of_decide_eq_true c2)
      repeat walk_at "es8"
      exact ⟨z - 1, by omega, k + 1, by omega, by rw [show (k : Int) + 1 = ((k + 1 : Nat) : Int) by omega]; rfl, rfl⟩
    · have c2 : ¬ k + 1 ≤ l := fun z => of_decide_eq_false c2 (st1.mpr z)
      exact fin (by omega)
  · have c := of_decide_eq_false c
    refine ⟨fun z => (by cases z), fun _ => fin (by omega)⟩
theorem lcp_rev (a b : List (Fin 8)) (m k : Nat) (h : k ≤ m) (ha : k ≤ a.length) (hb : k ≤ b.length) : (a.drop (a.length - k) = b.drop (b.length - k) ↔ k ≤ lcp a.reverse b.reverse m) := by
  rw [← lcp_take a.reverse b.reverse m k h (by simpa using ha) (by simpa using hb), List.take_reverse, List.take_reverse]
  exact ⟨fun e => by rw [e], fun e => List.reverse_inj.mp e⟩
end
section
open PySem PySem.Spec L2 M
def RpO (d : D) (n k : Nat) : Prop := ∃ x, dq d = some x ∧ x.hasDict = false ∧ x.leavesShort 13 = true ∧ x.showable = true ∧ x.weight ≤ n ∧ x.depth ≤ k
def RpA (ds : List D) (n k : Nat) : Prop := ∃ xs, dqs ds = some xs ∧ PyData.hasDictAll xs = false ∧ PyData.leavesShortAll 13 xs = true ∧ PyData.showableAll xs = true ∧ PyData.weightAll xs ≤ n ∧ PyData.depthAll xs ≤ k
theorem rp_int {i : Int} (h : i.natAbs ≤ 100000000) : RpO (.int i) 30 0 := by
  refine ⟨.int i, by rw [dq], by simp only [PyData.hasDict], ?_, ?_, ?_, by simp only [PyData.depth]; exact Nat.le_refl _⟩
  · rw [PyData.leavesShort]
    exact decide_eq_true (PyData.shown_int_le (by omega))
  · rw [PyData.showable]
    refine decide_eq_true ?_
    have : i.natAbs.log2 < 27 ∨ i.natAbs = 0 := by
      by_cases z : i.natAbs = 0
      · exact .inr z
      · left
        rw [Nat.log2_lt z]
        have : (2 : Nat) ^ 27 = 134217728 := by decide
        omega
    rcases this with z | z
    · omega
    · rw [z]; decide
  · rw [PyData.weight]
    split
    · omega
    · rename_i z
      have z : i.natAbs ≠ 0 := fun e => z (by simp; omega)
      have : i.natAbs.log2 < 27 := by
        rw [Nat.log2_lt z]
        have : (2 : Nat) ^ 27 = 134217728 := by decide
        omega
      omega
theorem rp_str {s : Str} (h : strShort s) : RpO (.str s) 40 0 := by
  obtain ⟨a, b, c⟩ := str_short h
  exact ⟨.str s, by rw [dq], by simp only [PyData.hasDict], a, b, c, by simp only [PyData.depth]; exact Nat.le_refl _⟩
theorem rp_bl (b : Bool) : RpO (.bl b) 40 0 := ⟨.bool b, by rw [dq], by simp only [PyData.hasDict], by rw [PyData.leavesShort], by rw [PyData.showable], by rw [PyData.weight]; omega, by simp only [PyData.depth]; exact Nat.le_refl _⟩
theorem rp_nil {k : Nat} : RpA [] 0 k := ⟨[], by rw [dqs], by simp only [PyData.hasDictAll], by simp only [PyData.leavesShortAll], by simp only [PyData.showableAll], by simp only [PyData.weightAll]; exact Nat.le_refl _, by simp only [PyData.depthAll]; omega⟩
theorem rp_cons {d : D} {ds : List D} {n m k : Nat} (h : RpO d n k) (r : RpA ds m k) : RpA (d :: ds) (n + 1 + m) k := by
  obtain ⟨x, e, a1, a2, a3, a4, a5⟩ := h
  obtain ⟨xs, e2, b1, b2, b3, b4, b5⟩ := r
  refine ⟨x :: xs, by rw [dqs, e, e2], by simp only [PyData.hasDictAll, a1, b1, Bool.or_self], by simp only [PyData.leavesShortAll, a2, b2, Bool.and_self], by simp only [PyData.showableAll, a3, b3, Bool.and_self], ?_, ?_⟩
  · simp only [PyData.weightAll]; omega
  · simp only [PyData.depthAll]; omega
theorem RpO.le {d : D} {n m k l : Nat} (h : RpO d n k) (a : n ≤ m) (b : k ≤ l) : RpO d m l := by
  obtain ⟨x, e, a1, a2, a3, a4, a5⟩ := h
  exact ⟨x, e, a1, a2, a3, by omega, by omega⟩
theorem RpA.le {ds : List D} {n m k l : Nat} (h : RpA ds n k) (a : n ≤ m) (b : k ≤ l) : RpA ds m l := by
  obtain ⟨x, e, a1, a2, a3, a4, a5⟩ := h
  exact ⟨x, e, a1, a2, a3, by omega, by omega⟩
theorem rp_tup {ds : List D} {n k : Nat} (h : RpA ds n k) : RpO (.tup ds) n (k + 1) := by
  obtain ⟨xs, e, b1, b2, b3, b4, b5⟩ := h
  refine ⟨.tuple xs, by rw [dq, e]; rfl, by simp only [PyData.hasDict, b1], by simp only [PyData.leavesShort, b2], by simp only [PyData.showable, b3], ?_, ?_⟩
  · simp only [PyData.weight]; omega
  · simp only [PyData.depth]; omega
theorem rp_lst {ds : List D} {n k : Nat} (h : RpA ds n k) : RpO (.lst ds) n (k + 1) := by
  obtain ⟨xs, e, b1, b2, b3, b4, b5⟩ := h
  refine ⟨.list xs, by rw [dq, e]; rfl, by simp only [PyData.hasDict, b1], by simp only [PyData.leavesShort, b2], by simp only [PyData.showable, b3], ?_, ?_⟩
  · simp only [PyData.weight]; omega
  · simp only [PyData.depth]; omega
theorem rp_map {α : Type} {f : α → D} {n k : Nat} : ∀ {xs : List α}, (∀ x ∈ xs, RpO (f x) n k) → RpA (xs.map f) ((n + 1) * xs.length) k
  | [], _ => rp_nil
  | x :: r, h => by
    have := rp_cons (h x List.mem_cons_self) (rp_map fun y m => h y (List.mem_cons_of_mem _ m))
    rw [List.map_cons]
    refine this.le ?_ (Nat.le_refl _)
    rw [List.length_cons, Nat.mul_add, Nat.mul_one]; omega
theorem rp_ok {d : D} {n k : Nat} (h : RpO d n k) (hn : n ≤ 600000) (hk : k ≤ 60) : ∃ x, dq d = some x ∧ reprOk x = true := by
  obtain ⟨x, e, a1, a2, a3, a4, a5⟩ := h
  refine ⟨x, e, ?_⟩
  have sh := PyData.shown_le 13 (by decide) _ a2
  unfold reprOk
  simp only [a1, a3, Bool.and_eq_true, Bool.or_eq_true, decide_eq_true_eq]
  exact ⟨⟨⟨.inl rfl, trivial⟩, by omega⟩, by omega⟩
end
section
open PySem PySem.Spec L2 M
variable {st : Sto} {cs : Cs}
/-- how many blocks two documents have in common at the beginning, then at the end -/
def fr (a b : List (Fin 8)) : Nat := lcp a b (min a.length b.length)
def en (a b : List (Fin 8)) : Nat := lcp a.reverse b.reverse (min a.length b.length - fr a b)
theorem fr_le (a b : List (Fin 8)) : fr a b ≤ a.length ∧ fr a b ≤ b.length := by
  have := lcp_le a b (min a.length b.length)
  unfold fr; omega
theorem en_le (a b : List (Fin 8)) : fr a b + en a b ≤ a.length ∧ fr a b + en a b ≤ b.length := by
  have := lcp_le a.reverse b.reverse (min a.length b.length - fr a b)
  have := fr_le a b
  unfold en; omega
def difD (a b : List (Fin 8)) : D := wD (fr a b : Nat) ((a.length - fr a b - en a b : Nat) : Int) ((b.drop (fr a b)).take (b.length - en a b - fr a b))
theorem r_diff {a b : List (Fin 8)} (ha : a.length ≤ 100) (hb : b.length ≤ 100) {Q : D → Sto → Prop} (q : Q (difD a b) st) : Ens (callB 2 m_difference [.lst (a.map bD), .lst (b.map bD)] st) Q := by
  refine ens_B0 rfl rfl (by rw [pfs, pfs, pf, pf, pfs_b, pfs_b]; rfl) ?_
  unfold m_difference
  refine ens_def [some (.lst (a.map bD)), some (.lst (b.map bD)), none, none, none] rfl ?_
  unfold b_difference
  repeat walk_at "es8"
  have F := fr_le a b
  have N := en_le a b
  have e : (if (((b.map bD).length : Nat) : Int) < (((a.map bD).length : Nat) : Int) then (((b.map bD).length : Nat) : Int) else (((a.map bD).length : Nat) : Int)) = ((min a.length b.length : Nat) : Int) := by
    rw [List.length_map, List.length_map]
    split <;> omega
  rw [e]
  refine r_ahead (Nat.min_le_left _ _) (Nat.min_le_right _ _) (by omega) ?_
  repeat walk_at "es8"
  refine ens_REV ?_
  repeat walk_at "es8"
  refine ens_ret ?_
  repeat walk_at "es8"
  refine ens_REV ?_
  repeat walk_at "es8"
  refine ens_ret ?_
  repeat walk_at "es8"
  rw [← List.map_reverse, ← List.map_reverse, show ((min a.length b.length : Nat) : Int) - ((lcp a b (min a.length b.length) : Nat) : Int) = ((min a.length b.length - fr a b : Nat) : Int) by unfold fr at *; omega]
  refine r_ahead (by rw [List.length_reverse]; omega) (by rw [List.length_reverse]; omega) (by omega) ?_
  repeat walk_at "es8"
  have fin : ∀ X : D, X = difD a b → (pf X = true ∧ Q X st) := fun X e => by rw [e]; exact ⟨pf_w _ _ _, q⟩
  refine fin _ ?_
  show D.tup [.str "edit", .int ((fr a b : Nat) : Int), .int (((a.map bD).length : Int) - ((fr a b : Nat) : Int) - ((en a b : Nat) : Int)), .lst (cutD (b.map bD) (some ((fr a b : Nat) : Int)) (some (((b.map bD).length : Int) - ((en a b : Nat) : Int))))] = _
  rw [List.length_map, List.length_map, show (a.length : Int) - ((fr a b : Nat) : Int) - ((en a b : Nat) : Int) = ((a.length - fr a b - en a b : Nat) : Int) by omega, show (b.length : Int) - ((en a b : Nat) : Int) = ((b.length - en a b : Nat) : Int) by omega, cut_lh b (fr a b) (b.length - en a b) (by omega) (by omega)]
  rfl
/-! same -/
theorem sOk_b : ∀ i, sOk 4 (bD i) = true := by decide +kernel
theorem sOk_l {l : List (Fin 8)} (h : l.length ≤ 1000) : sOk 5 (.lst (l.map bD)) = true := by
  rw [sOk, Bool.and_eq_true, List.all_eq_true]
  refine ⟨decide_eq_true (by rw [List.length_map]; omega), fun x m => ?_⟩
  obtain ⟨i, _, rfl⟩ := List.mem_map.mp m
  exact sOk_b i
theorem sOk_b3 : ∀ i, sOk 3 (bD i) = true := by decide +kernel
theorem sOk_w {x y : Int} {l : List (Fin 8)} (h : l.length ≤ 1000) : sOk 5 (wD x y l) = true := by
  unfold wD
  rw [sOk, Bool.and_eq_true]
  refine ⟨rfl, ?_⟩
  simp only [List.all_cons, List.all_nil, Bool.and_true, Bool.and_eq_true]
  refine ⟨rfl, rfl, rfl, ?_⟩
  rw [sOk, Bool.and_eq_true, List.all_eq_true]
  refine ⟨decide_eq_true (by rw [List.length_map]; omega), fun x m => ?_⟩
  obtain ⟨i, _, rfl⟩ := List.mem_map.mp m
  exact sOk_b3 i
theorem r_sameL {l : List (Fin 8)} (h : l.length ≤ 1000) {Q : D → Sto → Prop} (q : Q (.bl true) st) : Ens (callB 2 (m_law_same 6) [.lst (l.map bD), .lst (l.map bD)] st) Q := r_same 5 _ (sOk_l h) q
theorem r_sameW {x y : Int} {l : List (Fin 8)} (h : l.length ≤ 1000) {Q : D → Sto → Prop} (q : Q (.bl true) st) : Ens (callB 2 (m_law_same 6) [wD x y l, wD x y l] st) Q := r_same 5 _ (sOk_w h) q
/-! what is kept -/
theorem sh (s : Str) (h : s.length ≤ 40 ∧ (T s).all (fun c => decide (c < 1000)) = true) : strShort s := ⟨h.1, fun c m => of_decide_eq_true (List.all_eq_true.mp h.2 c m)⟩
theorem tx_rp {s : Str} (h : strShort s) : RpO (tx s) 130 2 := by
  have t : RpO (.str "text") 40 0 := rp_str (sh _ ⟨by decide +kernel, by decide +kernel⟩)
  exact (rp_lst (rp_cons (rp_tup (rp_cons t (rp_cons t (rp_cons (rp_str h) (rp_nil (k := 0)))))) (rp_nil (k := 1)))).le (by omega) (Nat.le_refl _)
theorem b_rp : ∀ i, RpO (bD i) 400 3 := by
  have sa : strShort "a" := sh _ ⟨by decide +kernel, by decide +kernel⟩
  have sb : strShort "b" := sh _ ⟨by decide +kernel, by decide +kernel⟩
  have sc : strShort "c" := sh _ ⟨by decide +kernel, by decide +kernel⟩
  have p : RpO (.str "para") 40 0 := rp_str (sh _ ⟨by decide +kernel, by decide +kernel⟩)
  have h : RpO (.str "head") 40 0 := rp_str (sh _ ⟨by decide +kernel, by decide +kernel⟩)
  have e : RpO (.str "") 40 0 := rp_str (sh _ ⟨by decide +kernel, by decide +kernel⟩)
  have pa : ∀ {s}, strShort s → RpO (.tup [.str "para", tx s]) 400 3 := fun h => (rp_tup (rp_cons (p.le (Nat.le_refl _) (Nat.zero_le 2)) (rp_cons (tx_rp h) (rp_nil (k := 2))))).le (by omega) (Nat.le_refl _)
  have he : ∀ {s}, strShort s → RpO (.tup [.str "head", .int 1, tx s, .str ""]) 400 3 := fun hs => (rp_tup (rp_cons (h.le (Nat.le_refl _) (Nat.zero_le 2)) (rp_cons ((rp_int (i := 1) (by decide)).le (Nat.le_refl _) (Nat.zero_le 2)) (rp_cons (tx_rp hs) (rp_cons (e.le (Nat.le_refl _) (Nat.zero_le 2)) (rp_nil (k := 2))))))).le (by omega) (Nat.le_refl _)
  refine b_all (pa sa) (pa sb) (pa sc) (he sa) (he sb) (he sc) ?_ ?_
  · exact (rp_tup (rp_cons (rp_str (sh _ ⟨by decide +kernel, by decide +kernel⟩)) (rp_nil (k := 0)))).le (by omega) (by omega)
  · exact (rp_tup (rp_cons (rp_str (sh _ ⟨by decide +kernel, by decide +kernel⟩)) (rp_nil (k := 0)))).le (by omega) (by omega)
theorem l_rp {l : List (Fin 8)} (h : l.length ≤ 100) : ∃ x, dq (.lst (l.map bD)) = some x ∧ reprOk x = true := by
  have a := rp_lst (rp_map (f := bD) (xs := l) fun i _ => b_rp i)
  have : (400 + 1) * l.length ≤ 401 * 100 := Nat.mul_le_mul (Nat.le_refl _) h
  exact rp_ok a (by omega) (by omega)
/-! the edits lead where they should -/
theorem aft_back {doc : List (Fin 8)} {a r : Nat} {bs : List (Fin 8)} (h : a + r ≤ doc.length) : aft (aft doc a r bs) a bs.length ((doc.drop a).take r) = doc := by
  have l1 : (doc.take a).length = a := by rw [List.length_take]; omega
  have e1 : (aft doc a r bs).take a = doc.take a := by
    unfold aft
    rw [List.append_assoc, List.take_append_of_le_length (by rw [l1]; exact Nat.le_refl _), List.take_take, Nat.min_self]
  have e2 : (aft doc a r bs).drop (a + bs.length) = doc.drop (a + r) := by
    unfold aft
    exact List.drop_left' (by rw [List.length_append, l1])
  show (aft doc a r bs).take a ++ (doc.drop a).take r ++ (aft doc a r bs).drop (a + bs.length) = doc
  rw [e1, e2, List.append_assoc, ← List.drop_drop, List.take_append_drop, List.take_append_drop]
theorem aft_dif (a b : List (Fin 8)) : aft a (fr a b) (a.length - fr a b - en a b) ((b.drop (fr a b)).take (b.length - en a b - fr a b)) = b := by
  have F := fr_le a b
  have N := en_le a b
  have e1 : a.take (fr a b) = b.take (fr a b) := (lcp_take a b (min a.length b.length) (fr a b) (by omega) F.1 F.2).mpr (Nat.le_refl _)
  have e2 : a.drop (a.length - en a b) = b.drop (b.length - en a b) := (lcp_rev a b (min a.length b.length - fr a b) (en a b) (lcp_le _ _ _).1 (by omega) (by omega)).mpr (Nat.le_refl _)
  unfold aft
  rw [show fr a b + (a.length - fr a b - en a b) = a.length - en a b by omega, e1, e2, List.append_assoc]
  have e3 : b.drop (b.length - en a b) = (b.drop (fr a b)).drop (b.length - en a b - fr a b) := by
    rw [List.drop_drop]; congr 1; omega
  rw [e3, List.take_append_drop, List.take_append_drop]
end
section
open PySem PySem.Spec L2 M
variable {st : Sto} {cs : Cs}
theorem ens_mid {g1 g2 : FS} {sl : Sl} {N : Sl → Sto → Prop} {R : D → Sto → Prop} (I : Sl → Sto → Prop) (h1 : EnsS (g1 sl st) I R) (h2 : ∀ sl st, I sl st → EnsS (g2 sl st) N R) : EnsS (sSeq g1 g2 sl st) N R := by
  refine ens_seq (Ens.imp h1 fun f s q => ?_)
  cases f with
  | nx sl2 => exact h2 _ _ q
  | rt d => exact q
  | bk _ => exact q
  | ct _ => exact q
theorem ens_catT {xs ys : List D} {Q : D → Sto → Prop} (h : xs ≠ [] ∧ ys ≠ [] ∧ xs.length + ys.length ≤ sizeLine) (q : Q (.tup (xs ++ ys)) st) : Ens (gCatT st (.tup xs) (.tup ys)) Q := ens_ite h (ens_ret q)
theorem ens_SLT {f : FE} {l r : FO} {sl : Sl} {Q : D → Sto → Prop} (q : Ens (f sl st) fun x st => Ens (l sl st) fun lo st => Ens (r sl st) fun hi st => Ens (gSlT st x lo hi) Q) : Ens (mSlT f l r sl st) Q := ens_bnd (q.imp fun _ _ q => ens_bnd (q.imp fun _ _ q => ens_bnd q))
theorem s_draws (ns : List Int) {Q : D → Sto → Prop} (q : ∀ C, Dr C → Q (.ptr st.length) (st ++ [some C])) : Ens (callB 1 m_law_draws [.scr ns] st) Q := by
  refine ens_B0c rfl rfl rfl ?_
  unfold m_law_draws
  refine ens_def [some (.scr ns)] rfl ?_
  unfold b_law_draws
  repeat walk_at "es8"
  refine ens_ret ?_
  repeat walk_at "es8"
  have d : Dr (.lst (drD ns 0 0 1)) := ⟨ns, 0, 0, 1, rfl, by decide, by decide⟩
  exact ⟨0, _, rfl, rfl, pf_dr d, q _ d⟩
theorem r_toldX (kn : Kn cs) {doc : List (Fin 8)} (hl : doc.length ≤ 100) {x y : Int} {bs : List (Fin 8)} (hx : -1 ≤ x ∧ x ≤ 150) (hy : -1 ≤ y ∧ y ≤ 150) (h : x < 0 ∨ y < 0 ∨ doc.length < x + y) {Q : D → Sto → Prop} (q : Q .non st) : Ens (callB 3 (m_law_told cs) [.fnc (cs.C "applied"), .lst (doc.map bD), wD x y bs] st) Q ∧ Ens (callB 3 (m_law_told cs) [.fnc (cs.C "inverse"), .lst (doc.map bD), wD x y bs] st) Q := by
  have hp : ∀ a, pfs [.fnc a, .lst (doc.map bD), wD x y bs] = true := fun a => by simp only [pfs, pf, pfs_b]; rfl
  exact ⟨r_told kn lk_app (hp _) ((r_appliedX hl hx hy h).imp2 (fun _ _ z => z.elim) fun e z => ⟨z, q⟩), r_told kn (lk_inv kn) (hp _) ((r_inverseX hl hx hy h).imp2 (fun _ _ z => z.elim) fun e z => ⟨z, q⟩)⟩
theorem r_toldA (kn : Kn cs) {doc : List (Fin 8)} {a r : Nat} {bs : List (Fin 8)} (hl : doc.length ≤ 100) (hb : bs.length ≤ 100) (h : a + r ≤ doc.length) {Q : D → Sto → Prop} (q : Q (.lst ((aft doc a r bs).map bD)) st) : Ens (callB 3 (m_law_told cs) [.fnc (cs.C "applied"), .lst (doc.map bD), wD a r bs] st) Q := 
  r_told kn lk_app (by simp only [pfs, pf, pfs_b]; rfl) (ez_of (r_applied hl hb h ⟨by rw [pf, pfs_b], q⟩))
theorem r_toldI (kn : Kn cs) {doc : List (Fin 8)} {a r : Nat} {bs : List (Fin 8)} (h : a + r ≤ doc.length) {Q : D → Sto → Prop} (q : Q (wD a bs.length ((doc.drop a).take r)) st) : Ens (callB 3 (m_law_told cs) [.fnc (cs.C "inverse"), .lst (doc.map bD), wD a r bs] st) Q := 
  r_told kn (lk_inv kn) (by simp only [pfs, pf, pfs_b]; rfl) (ez_of (r_inverse h ⟨pf_w _ _ _, q⟩))
/-- the greatest number of blocks that fit -/
theorem max_rng {n L : Nat} {F : Nat → D} (hL : L < n) : ∃ is : List Int, (((List.range n).filter fun k => decide (k ≤ L)).map fun k : Nat => D.int (0 + (k : Int))) = iDs is ∧ is ≠ [] ∧ maxOf is = L := by
  refine ⟨((List.range n).filter fun k => decide (k ≤ L)).map fun k : Nat => (0 + (k : Int)), by unfold iDs; rw [List.map_map]; rfl, ?_, ?_⟩
  · intro e
    have : (L : Int) ∈ ((List.range n).filter fun k => decide (k ≤ L)).map fun k : Nat => (0 + (k : Int)) := List.mem_map.mpr ⟨L, List.mem_filter.mpr ⟨List.mem_range.mpr hL, decide_eq_true (Nat.le_refl _)⟩, by omega⟩
    rw [e] at this; cases this
  · refine (maxOf_is (List.mem_map.mpr ⟨L, List.mem_filter.mpr ⟨List.mem_range.mpr hL, decide_eq_true (Nat.le_refl _)⟩, by omega⟩) fun y m => ?_).symm
    obtain ⟨k, mk, rfl⟩ := List.mem_map.mp m
    have := of_decide_eq_true (List.mem_filter.mp mk).2
    omega
theorem lcT {α : Type} {gt : FG} {tt : FT} {fe : FE} {sl : Sl} {st : Sto} (f : α → D) (p : α → Bool) (F : α → D) (xs : List α) (hl : xs.length ≤ 1000000)
    (h : ∀ x ∈ xs, Ens (gt (f x) sl st) fun sl2 s => Ens (tt sl2 s) fun b s => (b = true → p x = true ∧ Ens (fe sl2 s) fun y s => y = F x ∧ s = st) ∧ (b = false → p x = false ∧ s = st)) {Q : List D → Sto → Prop} (q : Q ((xs.filter p).map F) st) : Ens (lcL gt tt fe sl (xs.map f) [] st) Q := by
  refine lc_inv (fun k es s => s = st ∧ es = ((xs.take k).filter p).map F) (xs.map f) 0 [] st ⟨rfl, by simp⟩ (by simpa using hl) (fun j d es s e hI => ?_) fun es s hI => ?_
  · rw [Nat.zero_add] at hI ⊢
    obtain ⟨rfl, rfl⟩ := hI
    rw [List.getElem?_map] at e
    cases ex : xs[j]? with
    | none => rw [ex] at e; cases e
    | some x =>
      rw [ex] at e; cases e
      refine (h x (List.mem_of_getElem? ex)).imp fun sl2 s h => h.imp fun b s h => ⟨fun hb => ?_, fun hb => ?_⟩
      · obtain ⟨hp, h⟩ := h.1 hb
        refine h.imp fun y s h => ⟨h.2, ?_⟩
        rw [h.1, List.take_succ, ex, List.filter_append, List.map_append]
        simp [hp]
      · obtain ⟨hp, hs⟩ := h.2 hb
        refine ⟨hs, ?_⟩
        rw [List.take_succ, ex, List.filter_append, List.map_append]
        simp [hp]
  · rw [Nat.zero_add, List.length_map] at hI
    obtain ⟨rfl, rfl⟩ := hI
    rw [List.take_length]
    exact q
theorem min_len (a b : List (Fin 8)) : (if (((b.map bD).length : Nat) : Int) < (((a.map bD).length : Nat) : Int) then (((b.map bD).length : Nat) : Int) else (((a.map bD).length : Nat) : Int)) = ((min a.length b.length : Nat) : Int) := by
  rw [List.length_map, List.length_map]
  split <;> omega
def tailG (cs : Cs) : FS :=
    (sSeq (sIf (mB (mBin gEq (mCall (callB 2 m_law_draw) (mCons (mVar 1) (mCons (mC (.int 6)) mNil))) (mC (.int 0))))
    (sAsg (mLc false (iR1 (mCons (mCall (callB 2 m_law_draw) (mCons (mVar 1) (mCons (mC (.int 10)) mNil))) mNil)) (gNm 3) tYesD (mCall (callB 1 m_law_block) (mCons (mVar 1) mNil)) [3]) (gNm 8))
    sNext)
    (sSeq (sAsg (mCB cMaxL (mCons (mLc false (iR1 (mCons (mBin (gAdd false) (mCB cMin2 (mCons (mCB cLen (mCons (mVar 2) mNil)) (mCons (mCB cLen (mCons (mVar 8) mNil)) mNil))) (mC (.int 1))) mNil)) (gNm 3) (mB (mBin (gEqD false) (mSl false (mVar 2) mNoPart (mPart (mVar 3))) (mSl false (mVar 8) mNoPart (mPart (mVar 3))))) (mVar 3) [3]) mNil)) (gNm 10))
    (sSeq (sAsg (mBin M.gSub (mCB cMin2 (mCons (mCB cLen (mCons (mVar 2) mNil)) (mCons (mCB cLen (mCons (mVar 8) mNil)) mNil))) (mVar 10)) (gNm 11))
    (sSeq (sAsg (mCB cMaxL (mCons (mLc false (iR1 (mCons (mBin (gAdd false) (mVar 11) (mC (.int 1))) mNil)) (gNm 3) (mB (mBin (gEqD false) (mSl false (mVar 2) (mPart (mBin M.gSub (mCB cLen (mCons (mVar 2) mNil)) (mVar 3))) mNoPart) (mSl false (mVar 8) (mPart (mBin M.gSub (mCB cLen (mCons (mVar 8) mNil)) (mVar 3))) mNoPart))) (mVar 3) [3]) mNil)) (gNm 12))
    (sSeq (sAsg (mTup (mCons (mC (.str "edit")) (mCons (mVar 10) (mCons (mBin M.gSub (mBin M.gSub (mCB cLen (mCons (mVar 2) mNil)) (mVar 10)) (mVar 12)) (mCons (mSl false (mVar 8) (mPart (mVar 10)) (mPart (mBin M.gSub (mCB cLen (mCons (mVar 8) mNil)) (mVar 12)))) mNil))))) (gNm 13))
    (sRet (mAndV (mCall (callB 2 (m_law_same 6)) (mCons (mCall (callB 2 m_difference) (mCons (mVar 2) (mCons (mVar 8) mNil))) (mCons (mVar 13) mNil))) (mAndV (mCall (callB 2 (m_law_same 6)) (mCons (mCall (callB 2 (m_applied cs)) (mCons (mVar 2) (mCons (mVar 13) mNil))) (mCons (mVar 8) mNil))) (mBin gEq (mCB cRepr (mCons (mVar 2) mNil)) (mVar 4))))))))))
theorem tail_run {ns : List Int} {doc o : List (Fin 8)} {x : PyData} {z w : D} {C : Cell} (hl : doc.length ≤ 50) (rep : ∀ {s : Sto} {Q : D → Sto → Prop}, Q (D.str x.shown) s → Ens (cRepr s [D.lst (List.map bD doc)]) Q) (ho : o.length ≤ 50) (d : Dr C) : EnsS (tailG cs [some (.scr ns), some (.ptr 0), some (.lst (doc.map bD)), none, some (.str x.shown), some w, none, none, some (.lst (o.map bD)), some z, none, none, none, none] [some C]) (fun _ _ => D.non = .bl true) (fun d _ => d = .bl true) := by
  unfold tailG
  refine ens_mid (fun sl s => ∃ (o : List (Fin 8)) (C : Cell), o.length ≤ 50 ∧ s = [some C] ∧ sl = [some (.scr ns), some (.ptr 0), some (.lst (doc.map bD)), none, some (.str x.shown), some w, none, none, some (.lst (o.map bD)), some z, none, none, none, none]) ?_ fun sl s hI => ?_
  · repeat walk_at "es8"
    refine s_drawB (by decide) (by decide) d fun v C5 v0 v1 d5 => ?_
    repeat walk_at "es8"
    refine ⟨fun _ => ?_, fun _ => ens_next ⟨o, C5, ho, rfl, rfl⟩⟩
    repeat walk_at "es8"
    refine s_drawB (by decide) (by decide) d5 fun n C6 n0 n1 d6 => ?_
    refine ens_nil ⟨n, rfl, by omega, ?_⟩
    refine s_blocks (fun d => rfl) d6 n.toNat (by omega) fun o2 C7 hl2 d7 => ?_
    exact ⟨o2, C7, by omega, rfl, rfl⟩
  obtain ⟨o, C, ho, rfl, rfl⟩ := hI
  have F := fr_le doc o
  have N := en_le doc o
  have rg : ∀ n, rngD 0 n = (List.range n).map fun k : Nat => D.int (0 + (k : Int)) := fun n => rfl
  repeat walk_at "es8"
  rw [min_len]
  refine ⟨by omega, ?_⟩
  rw [show ((min doc.length o.length : Nat) : Int) + 1 = ((min doc.length o.length + 1 : Nat) : Int) by omega, Int.toNat_natCast, rg]
  refine lcT _ (fun k => decide (k ≤ fr doc o)) (fun k => D.int (0 + (k : Int))) _ (by rw [List.length_range]; omega) (fun k mk => ?_) ?_
  · have mk := List.mem_range.mp mk
    rw [Int.zero_add]
    repeat walk_at "es8"
    rw [cut_h doc k (by omega), cut_h o k (by omega)]
    refine en_eqBs ⟨_, rfl, ?_⟩
    have := lcp_take doc o (min doc.length o.length) k (by omega) (by omega) (by omega)
    refine ⟨fun z => ⟨decide_eq_true (this.mp (of_decide_eq_true z)), ?_⟩, fun z => ⟨decide_eq_false fun y => of_decide_eq_false z (this.mpr y), rfl⟩⟩
    repeat walk_at "es8"
    exact ⟨rfl, rfl⟩
  obtain ⟨is, e1, e2, e3⟩ := max_rng (n := min doc.length o.length + 1) (L := fr doc o) (F := fun _ => .non) (by omega)
  rw [e1]
  refine ens_nil (ens_maxL (x := .lst (iDs is)) rfl e2 ?_)
  rw [e3]
  repeat walk_at "es8"
  rw [min_len]
  have Lr := lcp_le doc.reverse o.reverse (min doc.length o.length - fr doc o)
  rw [show ((min doc.length o.length : Nat) : Int) - ((fr doc o : Nat) : Int) = ((min doc.length o.length - fr doc o : Nat) : Int) by omega]
  repeat walk_at "es8"
  refine ⟨by omega, ?_⟩
  rw [show ((min doc.length o.length - fr doc o : Nat) : Int) + 1 = ((min doc.length o.length - fr doc o + 1 : Nat) : Int) by omega, Int.toNat_natCast, rg]
  refine lcT _ (fun k => decide (k ≤ en doc o)) (fun k => D.int (0 + (k : Int))) _ (by rw [List.length_range]; omega) (fun k mk => ?_) ?_
  · have mk := List.mem_range.mp mk
    rw [Int.zero_add]
    repeat walk_at "es8"
    rw [List.length_map, List.length_map, show (doc.length : Int) - (k : Int) = ((doc.length - k : Nat) : Int) by omega, show (o.length : Int) - (k : Int) = ((o.length - k : Nat) : Int) by omega, cut_l doc (doc.length - k) (by omega), cut_l o (o.length - k) (by omega)]
    refine en_eqBs ⟨_, rfl, ?_⟩
    have := lcp_rev doc o (min doc.length o.length - fr doc o) k (by omega) (by omega) (by omega)
    refine ⟨fun z => ⟨decide_eq_true (this.mp (of_decide_eq_true z)), ?_⟩, fun z => ⟨decide_eq_false fun y => of_decide_eq_false z (this.mpr y), rfl⟩⟩
    repeat walk_at "es8"
    exact ⟨rfl, rfl⟩
  obtain ⟨js, f1, f2, f3⟩ := max_rng (n := min doc.length o.length - fr doc o + 1) (L := en doc o) (F := fun _ => .non) (by unfold en; omega)
  rw [f1]
  refine ens_nil (ens_maxL (x := .lst (iDs js)) rfl f2 ?_)
  rw [f3]
  repeat walk_at "es8"
  rw [List.length_map, List.length_map, show (doc.length : Int) - ((fr doc o : Nat) : Int) - ((en doc o : Nat) : Int) = ((doc.length - fr doc o - en doc o : Nat) : Int) by omega, show (o.length : Int) - ((en doc o : Nat) : Int) = ((o.length - en doc o : Nat) : Int) by omega, cut_lh o (fr doc o) (o.length - en doc o) (by omega) (by omega)]
  refine r_diff (by omega) (by omega) ?_
  repeat walk_at "es8"
  refine r_sameW (by rw [List.length_take, List.length_drop]; omega) ?_
  repeat walk_at "es8"
  refine r_applied (by omega) (by rw [List.length_take, List.length_drop]; omega) (by omega) ?_
  rw [aft_dif]
  repeat walk_at "es8"
  refine r_sameL (by omega) ?_
  repeat walk_at "es8"
  refine rep ?_
  repeat walk_at "es8"
  rw [decide_eq_true (rfl : x.shown = x.shown)]
theorem law_run (kn : Kn cs) (ns : List Int) : Ens (m_law cs [.scr ns] []) fun d _ => d = .bl true := by
  unfold m_law
  refine ens_def [some (.scr ns), none, none, none, none, none, none, none, none, none, none, none, none, none] rfl ?_
  unfold b_law
  repeat walk_at "es8"
  refine s_draws ns fun C0 d0 => ?_
  repeat walk_at "es8"
  refine s_drawB (by decide) (by decide) d0 fun n C1 n0 n1 d1 => ?_
  refine ens_nil ⟨n, rfl, by omega, ?_⟩
  refine s_blocks (fun d => rfl) d1 n.toNat (by omega) fun doc C2 hl d2 => ?_
  have hl : doc.length ≤ 9 := by omega
  repeat walk_at "es8"
  obtain ⟨x, ex, hx⟩ := l_rp (l := doc) (by omega)
  have rep : ∀ {s : Sto} {Q : D → Sto → Prop}, Q (.str x.shown) s → Ens (cRepr s [.lst (doc.map bD)]) Q := fun q => ens_repr ex rfl hx q
  refine rep ?_
  repeat walk_at "es8"
  refine s_edit (by omega) d2 fun a r bs C3 har hb d3 => ?_
  show EnsS _ _ _
  have eW : eD a r bs = wD a r bs := rfl
  rw [eW]
  refine ens_mid (fun sl s => ∃ C, Dr C ∧ s = [some C] ∧ sl = [some (.scr ns), some (.ptr 0), some (.lst (doc.map bD)), none, some (.str x.shown), some (wD a r bs), none, none, none, none, none, none, none, none]) ?_ fun sl s hI => ?_
  · repeat walk_at "es8"
    refine s_drawB (by decide) (by decide) d3 fun v C4 v0 v1 d4 => ?_
    repeat walk_at "es8"
    refine ⟨fun _ => ?_, fun _ => ens_next ⟨C4, d4, rfl, rfl⟩⟩
    have wr : ∀ {Q : D → Sto → Prop} {s : Sto} {x y : Int}, -1 ≤ x ∧ x ≤ 150 → -1 ≤ y ∧ y ≤ 150 → (x < 0 ∨ y < 0 ∨ doc.length < x + y) → Q .non s → Ens (callB 3 (m_law_told cs) [.fnc (cs.C "applied"), .lst (doc.map bD), wD x y bs] s) Q ∧ Ens (callB 3 (m_law_told cs) [.fnc (cs.C "inverse"), .lst (doc.map bD), wD x y bs] s) Q := fun hx hy h q => r_toldX kn (by omega) hx hy h q
    repeat walk_at "es8"
    refine ens_SLT ?_
    repeat walk_at "es8"
    refine ens_red (x := .tup [.int r, .lst (bs.map bD)]) rfl ?_
    refine ens_catT ⟨by simp, by simp, by unfold PySem.sizeLine; simp⟩ ?_
    repeat walk_at "es8"
    refine ens_SLT ?_
    repeat walk_at "es8"
    refine ens_red (x := .tup [.str "edit", .int a]) rfl ?_
    repeat walk_at "es8"
    refine ens_catT ⟨by simp, by simp, by unfold PySem.sizeLine; simp⟩ ?_
    repeat walk_at "es8"
    refine ens_SLT ?_
    repeat walk_at "es8"
    refine ens_red (x := .tup [.str "edit", .int a]) rfl ?_
    repeat walk_at "es8"
    refine ens_catT ⟨by simp, by simp, by unfold PySem.sizeLine; simp⟩ ?_
    repeat walk_at "es8"
    refine ens_app rfl (by unfold PySem.sizeLine; simp) ?_
    repeat walk_at "es8"
    refine s_drawB (by decide) (by decide) d4 fun v C5 v0 v1 d5 => ?_
    simp only [List.length_map]
    have e4 : v = 0 ∨ v = 1 ∨ v = 2 ∨ v = 3 := by omega
    rcases e4 with rfl | rfl | rfl | rfl
    · refine ens_ix rfl rfl ?_
      repeat walk_at "es8"
      refine (wr (x := -1) (y := r) (by omega) (by omega) (by omega) ?_).1
      repeat walk_at "es8"
      refine (wr (x := -1) (y := r) (by omega) (by omega) (by omega) ?_).2
      repeat walk_at "es8"
      refine rep ?_
      repeat walk_at "es8"
      rw [decide_eq_true (rfl : x.shown = x.shown)]
    · refine ens_ix rfl rfl ?_
      repeat walk_at "es8"
      refine (wr (x := a) (y := -1) (by omega) (by omega) (by omega) ?_).1
      repeat walk_at "es8"
      refine (wr (x := a) (y := -1) (by omega) (by omega) (by omega) ?_).2
      repeat walk_at "es8"
      refine rep ?_
      repeat walk_at "es8"
      rw [decide_eq_true (rfl : x.shown = x.shown)]
    · refine ens_ix rfl rfl ?_
      repeat walk_at "es8"
      refine (wr (x := a) (y := (doc.length : Int) - a + 1) (by omega) (by omega) (by omega) ?_).1
      repeat walk_at "es8"
      refine (wr (x := a) (y := (doc.length : Int) - a + 1) (by omega) (by omega) (by omega) ?_).2
      repeat walk_at "es8"
      refine rep ?_
      repeat walk_at "es8"
      rw [decide_eq_true (rfl : x.shown = x.shown)]
    · refine ens_ix rfl rfl ?_
      repeat walk_at "es8"
      refine (wr (x := (doc.length : Int) + 1) (y := 0) (by omega) (by omega) (by omega) ?_).1
      repeat walk_at "es8"
      refine (wr (x := (doc.length : Int) + 1) (y := 0) (by omega) (by omega) (by omega) ?_).2
      repeat walk_at "es8"
      refine rep ?_
      repeat walk_at "es8"
      rw [decide_eq_true (rfl : x.shown = x.shown)]
  · obtain ⟨C4, d4, rfl, rfl⟩ := hI
    have al := aft_len (bs := bs) har
    repeat walk_at "es8"
    refine r_after (by omega) har (by omega) ?_
    repeat walk_at "es8"
    rw [List.length_map, show (a : Int) + (r : Int) = ((a + r : Nat) : Int) by omega, cut_lh doc a (a + r) (by omega) har, Nat.add_sub_cancel_left]
    repeat walk_at "es8"
    refine r_toldA kn (by omega) (by omega) har ?_
    repeat walk_at "es8"
    refine r_sameL (by omega) ?_
    repeat walk_at "es8"
    refine r_toldI kn har ?_
    repeat walk_at "es8"
    refine r_sameW (by rw [List.length_take, List.length_drop]; omega) ?_
    repeat walk_at "es8"
    refine r_applied (a := a) (r := bs.length) (by omega) (by rw [List.length_take, List.length_drop]; omega) (by omega) ?_
    rw [aft_back har]
    repeat walk_at "es8"
    refine r_sameL (by omega) ?_
    repeat walk_at "es8"
    refine s_drawB (by decide) (by decide) d4 fun v C5 v0 v1 d5 => ?_
    repeat walk_at "es8"
    refine ⟨fun _ => ?_, fun _ => ?_⟩
    · repeat walk_at "es8"
      refine s_edit (by omega) d5 fun a2 r2 b2 C6 h2 hb2 d6 => ?_
      repeat walk_at "es8"
      have al2 := aft_len (bs := b2) h2
      refine r_after (by omega) h2 (by omega) ?_
      exact tail_run (by omega) rep (by omega) d6
    · refine ens_next ?_
      exact tail_run (by omega) rep (by omega) d5
theorem math : ∀ cs, Kn cs → ∀ ns : List Int, ns.length ≤ 63 → ∃ st, m_law cs [.scr ns] [] = some (.ok (.bl true) st) := fun cs kn ns _ => by
  obtain ⟨d, s, e, h⟩ := law_run kn ns
  subst h
  exact ⟨s, e⟩
end
end G
namespace G
open PySem PySem.Spec PySem.W L2 M
end G
namespace G
open PySem PySem.Spec L2 M
set_option maxHeartbeats 0 in
theorem all_mk {l : PySem.W.OpenLaw} {w : World} {K : PySem.W.Frag} {h : Heap} {mg : Str → Option Value} {fa f0 f1 f2 f3 f4 f5 f6 f7 f8 f9 f10 f11 f12 : Addr} (X : K.In h) (G0 : h.Ns mainGlobals mg) (hfa : mg "law" = some (.ref fa))
    {od0 an0 od1 an1 od2 an2 od3 an3 od4 an4 od5 an5 od6 an6 od7 an7 od8 an8 od9 an9 od10 an10 od11 an11 od12 an12 : Option Addr} {sl0 sl1 sl2 sl3 sl4 sl5 sl6 sl7 sl8 sl9 sl10 sl11 sl12 : Array (Option Value)} {oc0 kV0 dc0 pm0 cd0 ct0 oc1 kV1 dc1 pm1 cd1 ct1 oc2 kV2 dc2 pm2 cd2 ct2 oc3 kV3 dc3 pm3 cd3 ct3 oc4 kV4 dc4 pm4 cd4 ct4 oc5 kV5 dc5 pm5 cd5 ct5 oc6 kV6 dc6 pm6 cd6 ct6 oc7 kV7 dc7 pm7 cd7 ct7 oc8 kV8 dc8 pm8 cd8 ct8 oc9 kV9 dc9 pm9 cd9 ct9 oc10 kV10 dc10 pm10 cd10 ct10 oc11 kV11 dc11 pm11 cd11 ct11 oc12 kV12 dc12 pm12 cd12 ct12 : Value}
    {A_EditError : Addr}
    (a0 : PySem.W.nsIn K mainGlobals "_removed_blocks" = some (some (.ref f0))) (l0 : K.lookup f0 = some ⟨oc0, od0, .func (PySem.W.fnOf "_removed_blocks" "_removed_blocks" (defArgs s_removed_blocks) (defBody s_removed_blocks) (defScope s_removed_blocks) .none kV0 dc0 pm0 an0 cd0 ct0), sl0⟩) (c0 : PySem.W.codeIn K cd0 "_removed_blocks" = true) (k0 : PySem.W.keepIn K (.ref f0) = true)
    (a1 : PySem.W.nsIn K mainGlobals "applied" = some (some (.ref f1))) (l1 : K.lookup f1 = some ⟨oc1, od1, .func (PySem.W.fnOf "applied" "applied" (defArgs s_applied) (defBody s_applied) (defScope s_applied) .none kV1 dc1 pm1 an1 cd1 ct1), sl1⟩) (c1 : PySem.W.codeIn K cd1 "applied" = true) (k1 : PySem.W.keepIn K (.ref f1) = true)
    (a2 : PySem.W.nsIn K mainGlobals "inverse" = some (some (.ref f2))) (l2 : K.lookup f2 = some ⟨oc2, od2, .func (PySem.W.fnOf "inverse" "inverse" (defArgs s_inverse) (defBody s_inverse) (defScope s_inverse) .none kV2 dc2 pm2 an2 cd2 ct2), sl2⟩) (c2 : PySem.W.codeIn K cd2 "inverse" = true) (k2 : PySem.W.keepIn K (.ref f2) = true)
    (a3 : PySem.W.nsIn K mainGlobals "_equal_ahead" = some (some (.ref f3))) (l3 : K.lookup f3 = some ⟨oc3, od3, .func (PySem.W.fnOf "_equal_ahead" "_equal_ahead" (defArgs s_equal_ahead) (defBody s_equal_ahead) (defScope s_equal_ahead) .none kV3 dc3 pm3 an3 cd3 ct3), sl3⟩) (c3 : PySem.W.codeIn K cd3 "_equal_ahead" = true) (k3 : PySem.W.keepIn K (.ref f3) = true)
    (a4 : PySem.W.nsIn K mainGlobals "difference" = some (some (.ref f4))) (l4 : K.lookup f4 = some ⟨oc4, od4, .func (PySem.W.fnOf "difference" "difference" (defArgs s_difference) (defBody s_difference) (defScope s_difference) .none kV4 dc4 pm4 an4 cd4 ct4), sl4⟩) (c4 : PySem.W.codeIn K cd4 "difference" = true) (k4 : PySem.W.keepIn K (.ref f4) = true)
    (a5 : PySem.W.nsIn K mainGlobals "_law_draws" = some (some (.ref f5))) (l5 : K.lookup f5 = some ⟨oc5, od5, .func (PySem.W.fnOf "_law_draws" "_law_draws" (defArgs s_law_draws) (defBody s_law_draws) (defScope s_law_draws) .none kV5 dc5 pm5 an5 cd5 ct5), sl5⟩) (c5 : PySem.W.codeIn K cd5 "_law_draws" = true) (k5 : PySem.W.keepIn K (.ref f5) = true)
    (a6 : PySem.W.nsIn K mainGlobals "_law_draw" = some (some (.ref f6))) (l6 : K.lookup f6 = some ⟨oc6, od6, .func (PySem.W.fnOf "_law_draw" "_law_draw" (defArgs s_law_draw) (defBody s_law_draw) (defScope s_law_draw) .none kV6 dc6 pm6 an6 cd6 ct6), sl6⟩) (c6 : PySem.W.codeIn K cd6 "_law_draw" = true) (k6 : PySem.W.keepIn K (.ref f6) = true)
    (a7 : PySem.W.nsIn K mainGlobals "_law_same" = some (some (.ref f7))) (l7 : K.lookup f7 = some ⟨oc7, od7, .func (PySem.W.fnOf "_law_same" "_law_same" (defArgs s_law_same) (defBody s_law_same) (defScope s_law_same) .none kV7 dc7 pm7 an7 cd7 ct7), sl7⟩) (c7 : PySem.W.codeIn K cd7 "_law_same" = true) (k7 : PySem.W.keepIn K (.ref f7) = true)
    (a8 : PySem.W.nsIn K mainGlobals "_law_block" = some (some (.ref f8))) (l8 : K.lookup f8 = some ⟨oc8, od8, .func (PySem.W.fnOf "_law_block" "_law_block" (defArgs s_law_block) (defBody s_law_block) (defScope s_law_block) .none kV8 dc8 pm8 an8 cd8 ct8), sl8⟩) (c8 : PySem.W.codeIn K cd8 "_law_block" = true) (k8 : PySem.W.keepIn K (.ref f8) = true)
    (a9 : PySem.W.nsIn K mainGlobals "_law_edit" = some (some (.ref f9))) (l9 : K.lookup f9 = some ⟨oc9, od9, .func (PySem.W.fnOf "_law_edit" "_law_edit" (defArgs s_law_edit) (defBody s_law_edit) (defScope s_law_edit) .none kV9 dc9 pm9 an9 cd9 ct9), sl9⟩) (c9 : PySem.W.codeIn K cd9 "_law_edit" = true) (k9 : PySem.W.keepIn K (.ref f9) = true)
    (a10 : PySem.W.nsIn K mainGlobals "_law_told" = some (some (.ref f10))) (l10 : K.lookup f10 = some ⟨oc10, od10, .func (PySem.W.fnOf "_law_told" "_law_told" (defArgs s_law_told) (defBody s_law_told) (defScope s_law_told) .none kV10 dc10 pm10 an10 cd10 ct10), sl10⟩) (c10 : PySem.W.codeIn K cd10 "_law_told" = true) (k10 : PySem.W.keepIn K (.ref f10) = true)
    (a11 : PySem.W.nsIn K mainGlobals "_law_after" = some (some (.ref f11))) (l11 : K.lookup f11 = some ⟨oc11, od11, .func (PySem.W.fnOf "_law_after" "_law_after" (defArgs s_law_after) (defBody s_law_after) (defScope s_law_after) .none kV11 dc11 pm11 an11 cd11 ct11), sl11⟩) (c11 : PySem.W.codeIn K cd11 "_law_after" = true) (k11 : PySem.W.keepIn K (.ref f11) = true)
    (a12 : PySem.W.nsIn K mainGlobals "law" = some (some (.ref f12))) (l12 : K.lookup f12 = some ⟨oc12, od12, .func (PySem.W.fnOf "law" "law" (defArgs s_law) (defBody s_law) (defScope s_law) .none kV12 dc12 pm12 an12 cd12 ct12), sl12⟩) (c12 : PySem.W.codeIn K cd12 "law" = true) (k12 : PySem.W.keepIn K (.ref f12) = true)
    (z_len : PySem.W.nsIn K mainGlobals "len" = some none)
    (z_min : PySem.W.nsIn K mainGlobals "min" = some none)
    (z_list : PySem.W.nsIn K mainGlobals "list" = some none)
    (z_int : PySem.W.nsIn K mainGlobals "int" = some none)
    (z_isinstance : PySem.W.nsIn K mainGlobals "isinstance" = some none)
    (z_tuple : PySem.W.nsIn K mainGlobals "tuple" = some none)
    (z_range : PySem.W.nsIn K mainGlobals "range" = some none)
    (z_all : PySem.W.nsIn K mainGlobals "all" = some none)
    (z_str : PySem.W.nsIn K mainGlobals "str" = some none)
    (z_bool : PySem.W.nsIn K mainGlobals "bool" = some none)
    (z_repr : PySem.W.nsIn K mainGlobals "repr" = some none)
    (z_max : PySem.W.nsIn K mainGlobals "max" = some none)
    (n_EditError : PySem.W.nsIn K mainGlobals "EditError" = some (some (.ref A_EditError)))
    (xc_EditError : PySem.W.excIn K A_EditError [.type "ValueError", .type "Exception", .type "BaseException", .type "object"] "ValueError.__new__" = true)
    (ex_EditError : PySem.W.subIn K (.ref A_EditError) (.type "BaseException") = some true)
    (ty_EditError : PySem.W.typeIn K (.ref A_EditError) = some (.type "type"))
    (kc_EditError : PySem.W.keepIn K (.ref A_EditError) = true)
    (hd_EditError : PySem.W.hasDictIn K A_EditError = true)
    (s_EditError_EditError : PySem.W.subIn K (.ref A_EditError) (.ref A_EditError) = some true)
    (nf_inverse_applied : f2 ≠ f1) :
    ∃ fd : FuncData, (∀ (s : Shared) (v : Value), BindsTo s fd ⟨[v], []⟩ [("script", v)]) ∧ Here l.prog w K mg fa fd := by
  have e := hfa.symm.trans (PySem.W.mg_of X G0 a12)
  cases e
  refine ⟨PySem.W.fnOf "law" "law" (defArgs s_law) (defBody s_law) (defScope s_law) .none kV12 dc12 pm12 an12 cd12 ct12, fun s v => .of_eq rfl, fun base _ _ s_ H_ a_ ns_ e0 hb sq hl _ => ?_⟩
  let cs0 : Cs := (csOf K [(("EditError" : Str), A_EditError), (("applied" : Str), f1), (("inverse" : Str), f2)] [(("EditError" : Str), Value.ref A_EditError)])
  have T : Tx l.prog w K mg base cs0 := ⟨PySem.W.mg_none_of X G0 z_len, PySem.W.mg_none_of X G0 z_min, PySem.W.mg_none_of X G0 z_list, PySem.W.mg_none_of X G0 z_int, PySem.W.mg_none_of X G0 z_isinstance, PySem.W.mg_none_of X G0 z_tuple, PySem.W.mg_none_of X G0 z_range, PySem.W.mg_none_of X G0 z_all, PySem.W.mg_none_of X G0 z_str, PySem.W.mg_none_of X G0 z_bool, PySem.W.mg_none_of X G0 z_repr, PySem.W.mg_none_of X G0 z_max, ⟨xc_EditError, (PySem.W.mg_of X G0 n_EditError), kc_EditError, ex_EditError, ty_EditError⟩, cs_exm (PySem.W.mg_of X G0 n_EditError), PySem.W.mg_of X G0 a1, PySem.W.mg_of X G0 a2⟩
  have kn : Kn cs0 := ⟨kn_exm rfl ex_EditError hd_EditError ty_EditError s_EditError_EditError, (fun z => nf_inverse_applied z)⟩
  have F0 := fun_mk (st := s_removed_blocks) l0 c0 k0
  have C0 : CalX l.prog w K mg base 3 "_removed_blocks" ["document", "edit"] (m_removed_blocks cs0) := ⟨_, _, ok_removed_blocks F0 T , PySem.W.mg_of X G0 a0, k0, F0.binds (ps := ["document", "edit"]) fun _ _ _ _ _ _ us hl => match us, hl with | [_, _], _ => rfl⟩
  have F1 := fun_mk (st := s_applied) l1 c1 k1
  have C1 : CalX l.prog w K mg base 4 "applied" ["document", "edit"] (m_applied cs0) := ⟨_, _, ok_applied F1 T C0, PySem.W.mg_of X G0 a1, k1, F1.binds (ps := ["document", "edit"]) fun _ _ _ _ _ _ us hl => match us, hl with | [_, _], _ => rfl⟩
  have F2 := fun_mk (st := s_inverse) l2 c2 k2
  have C2 : CalX l.prog w K mg base 4 "inverse" ["document", "edit"] (m_inverse cs0) := ⟨_, _, ok_inverse F2 T C0, PySem.W.mg_of X G0 a2, k2, F2.binds (ps := ["document", "edit"]) fun _ _ _ _ _ _ us hl => match us, hl with | [_, _], _ => rfl⟩
  have F3 := fun_mk (st := s_equal_ahead) l3 c3 k3
  have C3 : Cal l.prog w K mg base 1 "_equal_ahead" ["first", "second", "most"] m_equal_ahead := ⟨_, _, ok_equal_ahead F3 T , PySem.W.mg_of X G0 a3, k3, F3.binds (ps := ["first", "second", "most"]) fun _ _ _ _ _ _ us hl => match us, hl with | [_, _, _], _ => rfl⟩
  have F4 := fun_mk (st := s_difference) l4 c4 k4
  have C4 : Cal l.prog w K mg base 2 "difference" ["old", "new"] m_difference := ⟨_, _, ok_difference F4 T C3, PySem.W.mg_of X G0 a4, k4, F4.binds (ps := ["old", "new"]) fun _ _ _ _ _ _ us hl => match us, hl with | [_, _], _ => rfl⟩
  have F5 := fun_mk (st := s_law_draws) l5 c5 k5
  have C5 : Cal l.prog w K mg base 1 "_law_draws" ["script"] m_law_draws := ⟨_, _, ok_law_draws F5 T , PySem.W.mg_of X G0 a5, k5, F5.binds (ps := ["script"]) fun _ _ _ _ _ _ us hl => match us, hl with | [_], _ => rfl⟩
  have F6 := fun_mk (st := s_law_draw) l6 c6 k6
  have C6 : Cal l.prog w K mg base 1 "_law_draw" ["draws", "limit"] m_law_draw := ⟨_, _, ok_law_draw F6 T , PySem.W.mg_of X G0 a6, k6, F6.binds (ps := ["draws", "limit"]) fun _ _ _ _ _ _ us hl => match us, hl with | [_, _], _ => rfl⟩
  have F7 := fun_mk (st := s_law_same) l7 c7 k7
  have C7 : Cal l.prog w K mg base 6 "_law_same" ["actual", "expected"] (m_law_same 6) := ok_law_same F7 T  (PySem.W.mg_of X G0 a7) k7 (F7.binds (ps := ["actual", "expected"]) fun _ _ _ _ _ _ us hl => match us, hl with | [_, _], _ => rfl) 6
  have F8 := fun_mk (st := s_law_block) l8 c8 k8
  have C8 : Cal l.prog w K mg base 2 "_law_block" ["draws"] m_law_block := ⟨_, _, ok_law_block F8 T C6, PySem.W.mg_of X G0 a8, k8, F8.binds (ps := ["draws"]) fun _ _ _ _ _ _ us hl => match us, hl with | [_], _ => rfl⟩
  have F9 := fun_mk (st := s_law_edit) l9 c9 k9
  have C9 : Cal l.prog w K mg base 3 "_law_edit" ["draws", "document"] m_law_edit := ⟨_, _, ok_law_edit F9 T C6 C8, PySem.W.mg_of X G0 a9, k9, F9.binds (ps := ["draws", "document"]) fun _ _ _ _ _ _ us hl => match us, hl with | [_, _], _ => rfl⟩
  have F10 := fun_mk (st := s_law_told) l10 c10 k10
  have C10 : Cal l.prog w K mg base 5 "_law_told" ["call", "document", "edit"] (m_law_told cs0) := ⟨_, _, ok_law_told F10 T C1 C2, PySem.W.mg_of X G0 a10, k10, F10.binds (ps := ["call", "document", "edit"]) fun _ _ _ _ _ _ us hl => match us, hl with | [_, _, _], _ => rfl⟩
  have F11 := fun_mk (st := s_law_after) l11 c11 k11
  have C11 : Cal l.prog w K mg base 1 "_law_after" ["document", "edit"] m_law_after := ⟨_, _, ok_law_after F11 T , PySem.W.mg_of X G0 a11, k11, F11.binds (ps := ["document", "edit"]) fun _ _ _ _ _ _ us hl => match us, hl with | [_, _], _ => rfl⟩
  have F12 := fun_mk (st := s_law) l12 c12 k12
  exact ok_law F12 T C5 C6 C8 C9 C10 C11 C7 C1 C4 (math cs0 kn) e0 hb sq hl
end G
open PySem PySem.W PyProof.Rows
set_option maxHeartbeats 0 in
theorem PySem.Challenge.cw_galleypapers_k70_edits_of_documents_holds : PySem.Challenge.rw_galleypapers_k70_edits_of_documents.Holds := by
  w_on; o_law; k_head; (case hw => w_witness2)
  k_fill
  refine M.walk_here (l := PySem.Challenge.rw_galleypapers_k70_edits_of_documents) rfl rfl (fun w h Y => PySem.W.kIn_of Y) ?F
  case F =>
    intro w mg fa h KX GG hmg
    refine' G.all_mk KX GG hmg ?a0 ?l0 ?c0 ?k0 ?a1 ?l1 ?c1 ?k1 ?a2 ?l2 ?c2 ?k2 ?a3 ?l3 ?c3 ?k3 ?a4 ?l4 ?c4 ?k4 ?a5 ?l5 ?c5 ?k5 ?a6 ?l6 ?c6 ?k6 ?a7 ?l7 ?c7 ?k7 ?a8 ?l8 ?c8 ?k8 ?a9 ?l9 ?c9 ?k9 ?a10 ?l10 ?c10 ?k10 ?a11 ?l11 ?c11 ?k11 ?a12 ?l12 ?c12 ?k12 ?z_len ?z_min ?z_list ?z_int ?z_isinstance ?z_tuple ?z_range ?z_all ?z_str ?z_bool ?z_repr ?z_max ?n_EditError ?xc_EditError ?ex_EditError ?ty_EditError ?kc_EditError ?hd_EditError ?s_EditError_EditError ?nf_inverse_applied
    (case a0 => k_is)
    (case l0 => k_is)
    (case c0 => k_is)
    (case k0 => k_is)
    (case a1 => k_is)
    (case l1 => k_is)
    (case c1 => k_is)
    (case k1 => k_is)
    (case a2 => k_is)
    (case l2 => k_is)
    (case c2 => k_is)
    (case k2 => k_is)
    (case a3 => k_is)
    (case l3 => k_is)
    (case c3 => k_is)
    (case k3 => k_is)
    (case a4 => k_is)
    (case l4 => k_is)
    (case c4 => k_is)
    (case k4 => k_is)
    (case a5 => k_is)
    (case l5 => k_is)
    (case c5 => k_is)
    (case k5 => k_is)
    (case a6 => k_is)
    (case l6 => k_is)
    (case c6 => k_is)
    (case k6 => k_is)
    (case a7 => k_is)
    (case l7 => k_is)
    (case c7 => k_is)
    (case k7 => k_is)
    (case a8 => k_is)
    (case l8 => k_is)
    (case c8 => k_is)
    (case k8 => k_is)
    (case a9 => k_is)
    (case l9 => k_is)
    (case c9 => k_is)
    (case k9 => k_is)
    (case a10 => k_is)
    (case l10 => k_is)
    (case c10 => k_is)
    (case k10 => k_is)
    (case a11 => k_is)
    (case l11 => k_is)
    (case c11 => k_is)
    (case k11 => k_is)
    (case a12 => k_is)
    (case l12 => k_is)
    (case c12 => k_is)
    (case k12 => k_is)
    (case z_len => k_is)
    (case z_min => k_is)
    (case z_list => k_is)
    (case z_int => k_is)
    (case z_isinstance => k_is)
    (case z_tuple => k_is)
    (case z_range => k_is)
    (case z_all => k_is)
    (case z_str => k_is)
    (case z_bool => k_is)
    (case z_repr => k_is)
    (case z_max => k_is)
    (case n_EditError => k_is)
    (case xc_EditError => k_exc)
    (case ex_EditError => k_is)
    (case ty_EditError => k_is)
    (case kc_EditError => k_is)
    (case hd_EditError => k_is)
    (case s_EditError_EditError => k_is)
    (case nf_inverse_applied => decide)

