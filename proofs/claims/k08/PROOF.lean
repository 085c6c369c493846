import PyProof.Rows.All
import Wide.All
import OpenK.AllK
import Wide.FinOn
import HandS.ForMost
import HandS.Exc
import HandS.TryOnly
import HandS.ExcOwn
import HandS.WordsExc
import HandS.Defaults
import HandS.IsInst
import HandS.Wide
import HandS.Gcd
import HandS.Flow
import HandS.Conv
import HandS.RaiseMore
import HandS.TupAny
import HandS.Zip
import HandS.Rev
import HandS.Deep
import HandS.WideBits
import PyProof.ReprBulk
import HandS.Head0
import HandS.Head1
import HandS.Head2
import HandS.Head3
import HandS.HeadHook4
import HandS.HeadEnd
import HandS.EndBits
import HandS.MakeKwOnly
import KE.KTupSum
import HandS.Strs
import HandS.ReCall
import HandS.NamedTupGet
import HandS.RevTup
import HandS.Star
import HandS.HeadHook3
import KE.KRevSl
import KE.DataEq
import PySem.Challenge.RW_countfold_k08_rows_worth_and_added
set_option Elab.async false
set_option linter.all false
set_option maxRecDepth 100000
set_option maxHeartbeats 0

namespace FE
open PySem PySem.Spec PyProof.Rows L2

/-! data without a heap -/
inductive D where
  | non | bl (b : Bool) | int (i : Int) | str (x : PySem.Str)
  | tup (ds : List D) | wtp (ds : List D) | lst (ds : List D)
  | dic (ks : List Key) (ds : List D)
  | obj (c : PySem.Str) (ns : List PySem.Str) (ds : List D)
  | dev (j : Nat) (x : V)

/-- a slot: nothing, a value that stays, a list of one's own, a list of the caller's that is handed in to be changed -/
inductive SV where
  | no | sh (d : D) | ow (ds : List D) | io (ds : List D)
abbrev Env := List SV
inductive R where
  | sh (d : D) | ow (ds : List D)
def R.fz : R → D
  | .sh d => d
  | .ow ds => .lst ds
def R.sv : R → SV
  | .sh d => .sh d
  | .ow ds => .ow ds
/-- an exception: its class's name, what it bears -/
structure Xc where
  cls : PySem.Str
  bears : List (PySem.Str × D)

inductive OE where
  | ok (r : R) (env : Env) | exc (x : Xc) (env : Env) | bad
inductive OT where
  | ok (b : Bool) (env : Env) | exc (x : Xc) (env : Env) | bad
inductive OA where
  | ok (ds : List D) (env : Env) | exc (x : Xc) (env : Env) | bad
inductive OS where
  | nx (env : Env) | ret (r : R) (env : Env) | brk (env : Env) | cnt (env : Env) | exc (x : Xc) (env : Env) | bad

def OE.bind (o : OE) (f : R → Env → OE) : OE := match o with
  | .ok r env => f r env
  | .exc x env => .exc x env
  | .bad => .bad
def OE.bindT (o : OE) (f : R → Env → OT) : OT := match o with
  | .ok r env => f r env
  | .exc x env => .exc x env
  | .bad => .bad
def OE.bindA (o : OE) (f : R → Env → OA) : OA := match o with
  | .ok r env => f r env
  | .exc x env => .exc x env
  | .bad => .bad
def OE.bindS (o : OE) (f : R → Env → OS) : OS := match o with
  | .ok r env => f r env
  | .exc x env => .exc x env
  | .bad => .bad
def OT.bind (o : OT) (f : Bool → Env → OT) : OT := match o with
  | .ok r env => f r env
  | .exc x env => .exc x env
  | .bad => .bad
def OT.bindE (o : OT) (f : Bool → Env → OE) : OE := match o with
  | .ok r env => f r env
  | .exc x env => .exc x env
  | .bad => .bad
def OT.bindS (o : OT) (f : Bool → Env → OS) : OS := match o with
  | .ok r env => f r env
  | .exc x env => .exc x env
  | .bad => .bad
def OA.bind (o : OA) (f : List D → Env → OA) : OA := match o with
  | .ok r env => f r env
  | .exc x env => .exc x env
  | .bad => .bad
def OA.bindE (o : OA) (f : List D → Env → OE) : OE := match o with
  | .ok r env => f r env
  | .exc x env => .exc x env
  | .bad => .bad

/-! what represents what -/
def Ex (H H' : Hp) : Prop := ∀ a o, H a = some o → H' a = some o
theorem Ex.refl (H : Hp) : Ex H H := fun _ _ h => h
theorem Ex.trans {H H1 H2 : Hp} (a : Ex H H1) (b : Ex H1 H2) : Ex H H2 := fun x o h => b x o (a x o h)
theorem Ex.new {H : Hp} {p : Addr} {o : HO} (h : H p = none) : Ex H (upd H p o) := fun a u e => by
  rw [upd_ne (ne_of_none e h)]
  exact e
theorem Ex.rd {H H' : Hp} {a : Addr} {u : HO} (e : Ex H H') (h : Rd H a u) : Rd H' a u := by
  rcases h with h | ⟨o, h⟩
  · exact Or.inl (e a _ h)
  · exact Or.inr ⟨o, e a _ h⟩
theorem Ex.l {K : PySem.W.Frag} {H H' : Hp} {a : Addr} {xs : List V} (e : Ex H H') (h : SqL K H a xs) : SqL K H' a xs := by
  rcases h with h | h
  · exact Or.inl (e.rd h)
  · exact Or.inr h
theorem Ex.t {K : PySem.W.Frag} {H H' : Hp} {a : Addr} {xs : List V} (e : Ex H H') (h : SqT K H a xs) : SqT K H' a xs := by
  rcases h with h | h
  · exact Or.inl (e.rd h)
  · exact Or.inr h

structure Gd where
  K : PySem.W.Frag
  mg : PySem.Str → Option Value
/-- a list at a: of the call's own, or of the written part -/
def Lr (K : PySem.W.Frag) (F : Hp) (a : Addr) (vs : List V) : Prop :=
  Rd F a (.lst vs) ∨ ∃ (its : List Value) (n : Nat), K.lookup a = some { cls := .type "list", data := .seq its.toArray n } ∧ its.length ≤ sizeLine ∧ Vals vs its
theorem Lr.sq {K : PySem.W.Frag} {F : Hp} {a : Addr} {vs : List V} (h : Lr K F a vs) : SqL K F a vs := by
  rcases h with h | ⟨its, n, h1, h2, h3⟩
  · exact .inl h
  · exact .inr ⟨_, its.toArray, n, h1, rfl, rfl, rfl, by rw [List.size_toArray]; exact h2, by simpa using h3⟩
theorem Ex.lr {K : PySem.W.Frag} {H H' : Hp} {a : Addr} {xs : List V} (e : Ex H H') (h : Lr K H a xs) : Lr K H' a xs := by
  rcases h with h | h
  · exact Or.inl (e.rd h)
  · exact Or.inr h

/-- a tuple on which no dict hangs -/
def NdT (K : PySem.W.Frag) (F : Hp) (a : Addr) (vs : List V) : Prop :=
  (∃ o : Obj, F a = some (.frz o (.tup vs)) ∧ o.dict = none) ∨
    ∃ (o : Obj) (its : Array Value) (n : Nat), K.lookup a = some o ∧ o.cls = .type "tuple" ∧ o.dict = none ∧ o.data = .seq its n ∧ its.size ≤ sizeLine ∧ Vals vs its.toList
theorem NdT.t {K : PySem.W.Frag} {F : Hp} {a : Addr} {vs : List V} (h : NdT K F a vs) : SqT K F a vs := by
  rcases h with ⟨o, h, _⟩ | ⟨o, its, n, h1, h2, _, h3, h4, h5⟩
  · exact .inl (.inr ⟨o, h⟩)
  · exact .inr ⟨o, its, n, h1, h2, h3, h4, h5⟩
theorem Ex.nd {K : PySem.W.Frag} {H H' : Hp} {a : Addr} {xs : List V} (e : Ex H H') (h : NdT K H a xs) : NdT K H' a xs := by
  rcases h with ⟨o, h, d⟩ | h
  · exact .inl ⟨o, e a _ h, d⟩
  · exact .inr h
theorem NdT.new {K : PySem.W.Frag} {F : Hp} {p : Addr} {o : Obj} {vs : List V} (h : o.dict = none) : NdT K (upd F p (.frz o (.tup vs))) p vs := .inl ⟨o, upd_same, h⟩

mutual
inductive Rep (G : Gd) (F : Hp) : V → D → Prop
  | non : Rep G F .non .non
  | bl (b : Bool) : Rep G F (.bl b) (.bl b)
  | int (i : Int) : Rep G F (.int i) (.int i)
  | str (x : PySem.Str) : Rep G F (.str x) (.str x)
  | wtp {a : Addr} {vs : List V} {ds : List D} : SqT G.K F a vs → RepL G F vs ds → Rep G F (.ref a) (.wtp ds)
  | tup {a : Addr} {vs : List V} {ds : List D} : NdT G.K F a vs → RepL G F vs ds → Rep G F (.ref a) (.tup ds)
  | lst {a : Addr} {vs : List V} {ds : List D} : Lr G.K F a vs → RepL G F vs ds → Rep G F (.ref a) (.lst ds)
  | dic {a : Addr} {ks : List Key} {vs : List V} {ds : List D} : F a = some (.dK (ks.zip vs)) → ks.length = vs.length → RepL G F vs ds → Rep G F (.ref a) (.dic ks ds)
  | obj {a C dx : Addr} {c : PySem.Str} {ns : List PySem.Str} {vs : List V} {ds : List D} : F a = some (.ins C dx (ns.zip vs)) → F dx = some (.own a) → G.mg c = some (.ref C) → ns.length = vs.length → RepL G F vs ds → Rep G F (.ref a) (.obj c ns ds)
  | dev (j : Nat) (x : V) : Rep G F x (.dev j x)
inductive RepL (G : Gd) (F : Hp) : List V → List D → Prop
  | nil : RepL G F [] []
  | cons {v : V} {vs : List V} {d : D} {ds : List D} : Rep G F v d → RepL G F vs ds → RepL G F (v :: vs) (d :: ds)
end

section
variable {G : Gd} {F F' : Hp}
mutual
theorem Rep.mono (e : Ex F F') : ∀ {v : V} {d : D}, Rep G F v d → Rep G F' v d
  | _, _, .non => .non
  | _, _, .bl b => .bl b
  | _, _, .int i => .int i
  | _, _, .str x => .str x
  | _, _, .wtp h r => .wtp (e.t h) (RepL.mono e r)
  | _, _, .tup h r => .tup (e.nd h) (RepL.mono e r)
  | _, _, .lst h r => .lst (e.lr h) (RepL.mono e r)
  | _, _, .dic h l r => .dic (e _ _ h) l (RepL.mono e r)
  | _, _, .obj h h2 g l r => .obj (e _ _ h) (e _ _ h2) g l (RepL.mono e r)
  | _, _, .dev j x => .dev j x
theorem RepL.mono (e : Ex F F') : ∀ {vs : List V} {ds : List D}, RepL G F vs ds → RepL G F' vs ds
  | _, _, .nil => .nil
  | _, _, .cons h r => .cons (Rep.mono e h) (RepL.mono e r)
end
theorem RepL.length : ∀ {vs : List V} {ds : List D}, RepL G F vs ds → vs.length = ds.length
  | _, _, .nil => rfl
  | _, _, .cons _ r => congrArg Nat.succ (RepL.length r)
theorem RepL.get : ∀ {vs : List V} {ds : List D} {i : Nat} {d : D}, RepL G F vs ds → ds[i]? = some d → ∃ v, vs[i]? = some v ∧ Rep G F v d
  | _, _, _, _, .nil, e => by simp at e
  | _, _, 0, _, .cons h _, e => by
    simp at e
    subst e
    exact ⟨_, rfl, h⟩
  | _, _, i + 1, _, .cons _ r, e => by
    obtain ⟨v, h1, h2⟩ := RepL.get (i := i) r (by simpa using e)
    exact ⟨v, by simpa using h1, h2⟩
theorem RepL.getV : ∀ {vs : List V} {ds : List D} {i : Nat} {v : V}, RepL G F vs ds → vs[i]? = some v → ∃ d, ds[i]? = some d ∧ Rep G F v d
  | _, _, _, _, .nil, e => by simp at e
  | _, _, 0, _, .cons h _, e => by
    simp at e
    subst e
    exact ⟨_, rfl, h⟩
  | _, _, i + 1, _, .cons _ r, e => by
    obtain ⟨v, h1, h2⟩ := RepL.getV (i := i) r (by simpa using e)
    exact ⟨v, by simpa using h1, h2⟩
theorem RepL.set {v : V} {d : D} (h : Rep G F v d) : ∀ {vs : List V} {ds : List D} (i : Nat), RepL G F vs ds → RepL G F (vs.set i v) (ds.set i d)
  | _, _, _, .nil => .nil
  | _, _, 0, .cons _ r => .cons h r
  | _, _, i + 1, .cons q r => .cons q (RepL.set h i r)
theorem RepL.append : ∀ {vs ws : List V} {ds es : List D}, RepL G F vs ds → RepL G F ws es → RepL G F (vs ++ ws) (ds ++ es)
  | _, _, _, _, .nil, s => s
  | _, _, _, _, .cons h r, s => .cons h (RepL.append r s)
theorem RepL.take : ∀ {vs : List V} {ds : List D} (n : Nat), RepL G F vs ds → RepL G F (vs.take n) (ds.take n)
  | _, _, 0, _ => .nil
  | _, _, _ + 1, .nil => .nil
  | _, _, n + 1, .cons h r => .cons h (RepL.take n r)
theorem RepL.drop : ∀ {vs : List V} {ds : List D} (n : Nat), RepL G F vs ds → RepL G F (vs.drop n) (ds.drop n)
  | _, _, 0, r => r
  | _, _, _ + 1, .nil => .nil
  | _, _, n + 1, .cons _ r => RepL.drop n r
theorem RepL.reverse : ∀ {vs : List V} {ds : List D}, RepL G F vs ds → RepL G F vs.reverse ds.reverse
  | _, _, .nil => .nil
  | _, _, .cons h r => by
    rw [List.reverse_cons, List.reverse_cons]
    exact RepL.append (RepL.reverse r) (.cons h .nil)
theorem RepL.single {v : V} {d : D} (h : Rep G F v d) : RepL G F [v] [d] := .cons h .nil
end

/-- the entry of a def: what was frozen then, the heap then, what is handed in to be changed; what is wished of an exception -/
structure Zd where
  G : Gd
  F0 : Hp
  H0 : Hp
  ps : List Addr
  W : WX
  C : PySem.Str → Value → Prop

def Own : SV → Option (List D)
  | .ow ds => some ds
  | .io ds => some ds
  | _ => none

structure Good (Z : Zd) (F : Hp) (σ : L2.St) (H : Hp) (env : Env) : Prop where
  ff : Ex Z.F0 F
  fh : Ex F H
  keep : ∀ a o, Z.H0 a = some o → a ∉ Z.ps → H a = some o
  new : ∀ a o, F a = some o → Z.F0 a = none → Z.H0 a = none
  len : env.length = σ.length
  sh : ∀ (i : Nat) d, env[i]? = some (.sh d) → ∃ v, σ[i]? = some (some v) ∧ Rep Z.G F v d
  ow : ∀ (i : Nat) s ds, env[i]? = some s → Own s = some ds → ∃ a vs, σ[i]? = some (some (.ref a)) ∧ H a = some (.lst vs) ∧ F a = none ∧ RepL Z.G F vs ds ∧ (a ∈ Z.ps ∨ Z.H0 a = none)
  io : ∀ (i : Nat) ds, env[i]? = some (.io ds) → ∃ a, σ[i]? = some (some (.ref a)) ∧ a ∈ Z.ps
  nio : ∀ (i : Nat) ds, env[i]? = some (.ow ds) → ∀ a, σ[i]? = some (some (.ref a)) → Z.H0 a = none
  pa : ∀ a ∈ Z.ps, ∃ (i : Nat) (ds : List D), env[i]? = some (.io ds) ∧ σ[i]? = some (some (.ref a))
  dis : ∀ (i j : Nat) a s t, i ≠ j → env[i]? = some s → env[j]? = some t → (Own s).isSome = true → (Own t).isSome = true → σ[i]? = some (some (.ref a)) → σ[j]? ≠ some (some (.ref a))

/-- a value that has come -/
def RepR (Z : Zd) (F : Hp) (σ : L2.St) (env : Env) (H : Hp) (v : V) : R → Prop
  | .sh d => Rep Z.G F v d
  | .ow ds => ∃ a vs, v = .ref a ∧ H a = some (.lst vs) ∧ F a = none ∧ RepL Z.G F vs ds ∧ Z.H0 a = none ∧ ∀ (i : Nat) s, env[i]? = some s → (Own s).isSome = true → σ[i]? ≠ some (some (.ref a))

section
variable {Z : Zd} {F F' H H' : Hp} {σ : L2.St} {env : Env}
/-- an object that nobody owns is laid, not known further -/
theorem Good.lay (g : Good Z F σ H env) {p : Addr} {o : HO} (h : H p = none) : Good Z F σ (upd H p o) env where
  ff := g.ff
  fh := g.fh.trans (Ex.new h)
  keep := fun a u e n => Ex.new h a u (g.keep a u e n)
  new := g.new
  len := g.len
  sh := g.sh
  ow := fun i s ds e1 e2 => by
    obtain ⟨a, vs, h1, h2, h3, h4, h5⟩ := g.ow i s ds e1 e2
    exact ⟨a, vs, h1, Ex.new h a _ h2, h3, h4, h5⟩
  io := g.io
  nio := g.nio
  pa := g.pa
  dis := g.dis
theorem Good.fresh (g : Good Z F σ H env) {p : Addr} (h : H p = none) : F p = none := by
  cases q : F p with
  | none => rfl
  | some o =>
    rw [g.fh p o q] at h
    cases h
theorem Good.nps (g : Good Z F σ H env) {p : Addr} (h : H p = none) : p ∉ Z.ps := fun hp => by
  obtain ⟨i, ds, e1, e2⟩ := g.pa p hp
  obtain ⟨a, vs, h1, h2, _⟩ := g.ow i _ ds e1 rfl
  rw [e2] at h1
  cases h1
  rw [h] at h2
  cases h2
theorem Good.fresh0 (g : Good Z F σ H env) {p : Addr} (h : H p = none) : Z.H0 p = none := by
  cases q : Z.H0 p with
  | none => rfl
  | some o =>
    rw [g.keep p o q (g.nps h)] at h
    cases h
/-- the frozen part grows by what stands and nobody owns -/
theorem Good.frz (g : Good Z F σ H env) {p : Addr} {o : HO} (h : H p = some o) (hF : F p = none) (h0 : Z.H0 p = none) (hn : ∀ (i : Nat) s, env[i]? = some s → (Own s).isSome = true → σ[i]? ≠ some (some (.ref p))) : Good Z (upd F p o) σ H env where
  ff := g.ff.trans (Ex.new hF)
  fh := fun a u e => by
    by_cases q : a = p
    · subst q
      rw [upd_same] at e
      cases e
      exact h
    · rw [upd_ne q] at e
      exact g.fh a u e
  keep := g.keep
  new := fun a u e n => by
    by_cases q : a = p
    · subst q
      exact h0
    · rw [upd_ne q] at e
      exact g.new a u e n
  len := g.len
  sh := fun i d e => by
    obtain ⟨v, h1, h2⟩ := g.sh i d e
    exact ⟨v, h1, h2.mono (Ex.new hF)⟩
  ow := fun i s ds e1 e2 => by
    obtain ⟨a, vs, h1, h2, h3, h4, h5⟩ := g.ow i s ds e1 e2
    have na : a ≠ p := fun q => by
      subst q
      exact hn i s e1 (by rw [e2]; rfl) h1
    exact ⟨a, vs, h1, h2, by rw [upd_ne na]; exact h3, h4.mono (Ex.new hF), h5⟩
  io := g.io
  nio := g.nio
  pa := g.pa
  dis := g.dis
/-- an object is laid and frozen -/
theorem Good.nown (g : Good Z F σ H env) {p : Addr} (h : H p = none) : ∀ (i : Nat) s, env[i]? = some s → (Own s).isSome = true → σ[i]? ≠ some (some (.ref p)) := fun i s e1 e2 e3 => by
    cases q : Own s with
    | none =>
      rw [q] at e2
      cases e2
    | some ds =>
      obtain ⟨a, vs, h1, h2, _⟩ := g.ow i s ds e1 q
      rw [h1] at e3
      cases e3
      rw [h] at h2
      cases h2
theorem Good.layF (g : Good Z F σ H env) {p : Addr} {o : HO} (h : H p = none) : Good Z (upd F p o) σ (upd H p o) env :=
  (g.lay h).frz upd_same (g.fresh h) (g.fresh0 h) (g.nown h)
theorem upd_fresh {p : Addr} {o : HO} (h : H p = none) : Ex H (upd H p o) := Ex.new h
/-- a value of one's own is given away -/
theorem Good.give (g : Good Z F σ H env) {v : V} {r : R} (h : RepR Z F σ env H v r) : ∃ F1, Good Z F1 σ H env ∧ Ex F F1 ∧ Rep Z.G F1 v r.fz := by
  cases r with
  | sh d => exact ⟨F, g, Ex.refl F, h⟩
  | ow ds =>
    obtain ⟨a, vs, rfl, h1, h2, h3, h4, h5⟩ := h
    exact ⟨upd F a (.lst vs), g.frz h1 h2 h4 h5, Ex.new h2, .lst (.inl (.inl upd_same)) (h3.mono (Ex.new h2))⟩
/-- a new list of one's own -/
theorem Good.mine (g : Good Z F σ H env) {p : Addr} {vs : List V} {ds : List D} (h : H p = none) (r : RepL Z.G F vs ds) : RepR Z F σ env (upd H p (.lst vs)) (.ref p) (.ow ds) :=
  ⟨p, vs, rfl, upd_same, g.fresh h, r, g.fresh0 h, g.nown h⟩
end
end FE

namespace FE
open PySem PySem.Spec PyProof.Rows L2

def noIo : Option SV → Bool
  | some (.io _) => false
  | _ => true

section
variable {Z : Zd} {F F' H H' : Hp} {σ : L2.St} {env : Env}
theorem get_set {α : Type} {l : List α} {i j : Nat} {x y : α} (h : (l.set i x)[j]? = some y) : (i = j ∧ y = x) ∨ (i ≠ j ∧ l[j]? = some y) := by
  by_cases e : i = j
  · subst e
    by_cases hl : i < l.length
    · rw [List.getElem?_set_self hl] at h
      exact .inl ⟨rfl, (Option.some.inj h).symm⟩
    · rw [List.getElem?_eq_none (by rw [List.length_set]; omega)] at h
      cases h
  · rw [List.getElem?_set_ne e] at h
    exact .inr ⟨e, h⟩
/-- a name's value is stored -/
theorem Good.asg (g : Good Z F σ H env) {i : Nat} {v : V} {r : R} (h : RepR Z F σ env H v r) (hi : noIo env[i]? = true) : Good Z F (σ.set i (some v)) H (env.set i r.sv) where
  ff := g.ff
  fh := g.fh
  keep := g.keep
  new := g.new
  len := by rw [List.length_set, List.length_set]; exact g.len
  sh := fun j d e => by
    rcases get_set e with ⟨rfl, e2⟩ | ⟨ne, e⟩
    · have hl : i < σ.length := by
        have := (List.getElem?_eq_some_iff.mp e).1
        rw [List.length_set, g.len] at this
        exact this
      cases r with
      | sh d' =>
        cases e2
        exact ⟨v, List.getElem?_set_self hl, h⟩
      | ow ds => cases e2
    · obtain ⟨w, h1, h2⟩ := g.sh j d e
      exact ⟨w, by rw [List.getElem?_set_ne ne]; exact h1, h2⟩
  ow := fun j s ds e eo => by
    rcases get_set e with ⟨rfl, e2⟩ | ⟨ne, e⟩
    · have hl : i < σ.length := by
        have := (List.getElem?_eq_some_iff.mp e).1
        rw [List.length_set, g.len] at this
        exact this
      subst e2
      cases r with
      | sh d' => cases eo
      | ow ds' =>
        cases eo
        obtain ⟨a, vs, rfl, h1, h2, h3, h4, _⟩ := h
        exact ⟨a, vs, List.getElem?_set_self hl, h1, h2, h3, .inr h4⟩
    · obtain ⟨a, vs, h1, h2, h3, h4, h5⟩ := g.ow j s ds e eo
      exact ⟨a, vs, by rw [List.getElem?_set_ne ne]; exact h1, h2, h3, h4, h5⟩
  io := fun j ds e => by
    rcases get_set e with ⟨rfl, e2⟩ | ⟨ne, e⟩
    · cases r <;> cases e2
    · obtain ⟨a, h1, h2⟩ := g.io j ds e
      exact ⟨a, by rw [List.getElem?_set_ne ne]; exact h1, h2⟩
  nio := fun j ds e a ea => by
    rcases get_set e with ⟨rfl, e2⟩ | ⟨ne, e⟩
    · have hl : i < σ.length := by
        have := (List.getElem?_eq_some_iff.mp e).1
        rw [List.length_set, g.len] at this
        exact this
      cases r with
      | sh d' => cases e2
      | ow ds' =>
        obtain ⟨b, vs, rfl, h1, h2, h3, h4, _⟩ := h
        rw [List.getElem?_set_self hl] at ea
        cases ea
        exact h4
    · rw [List.getElem?_set_ne ne] at ea
      exact g.nio j ds e a ea
  pa := fun a ha => by
    obtain ⟨j, ds, e1, e2⟩ := g.pa a ha
    have ne : i ≠ j := fun q => by
      subst q
      rw [e1] at hi
      cases hi
    exact ⟨j, ds, by rw [List.getElem?_set_ne ne]; exact e1, by rw [List.getElem?_set_ne ne]; exact e2⟩
  dis := fun j k a s t njk ej ek sj sk hj hk => by
    rcases get_set ej with ⟨rfl, e1⟩ | ⟨n1, e1⟩
    · have hl : i < σ.length := by
        have := (List.getElem?_eq_some_iff.mp ej).1
        rw [List.length_set, g.len] at this
        exact this
      rw [List.getElem?_set_self hl] at hj
      rw [List.getElem?_set_ne njk] at hk ek
      subst e1
      cases r with
      | sh d' => cases sj
      | ow ds' =>
        obtain ⟨b, vs, rfl, h1, h2, h3, h4, h5⟩ := h
        cases hj
        exact h5 k t ek sk hk
    · rw [List.getElem?_set_ne n1] at hj
      rcases get_set ek with ⟨rfl, e2⟩ | ⟨n2, e2⟩
      · have hl : i < σ.length := by
          have := (List.getElem?_eq_some_iff.mp ek).1
          rw [List.length_set, g.len] at this
          exact this
        rw [List.getElem?_set_self hl] at hk
        subst e2
        cases r with
        | sh d' => cases sk
        | ow ds' =>
          obtain ⟨b, vs, rfl, h1, h2, h3, h4, h5⟩ := h
          cases hk
          exact h5 j s e1 sj hj
      · rw [List.getElem?_set_ne n2] at hk
        exact g.dis j k a s t njk e1 e2 sj sk hj hk
/-- a slot is known no longer, or known as what does not change -/
theorem Good.less (g : Good Z F σ H env) {i : Nat} {s' : SV} (hi : noIo env[i]? = true) (hs : s' = .no ∨ ∃ d v, s' = .sh d ∧ σ[i]? = some (some v) ∧ Rep Z.G F v d) : Good Z F σ H (env.set i s') where
  ff := g.ff
  fh := g.fh
  keep := g.keep
  new := g.new
  len := by rw [List.length_set]; exact g.len
  sh := fun j d e => by
    rcases get_set e with ⟨rfl, e2⟩ | ⟨ne, e⟩
    · rcases hs with rfl | ⟨d', v, rfl, h1, h2⟩
      · cases e2
      · cases e2
        exact ⟨v, h1, h2⟩
    · exact g.sh j d e
  ow := fun j s ds e eo => by
    rcases get_set e with ⟨rfl, e2⟩ | ⟨ne, e⟩
    · subst e2
      rcases hs with rfl | ⟨d', v, rfl, h1, h2⟩ <;> cases eo
    · exact g.ow j s ds e eo
  io := fun j ds e => by
    rcases get_set e with ⟨rfl, e2⟩ | ⟨ne, e⟩
    · rcases hs with rfl | ⟨d', v, rfl, h1, h2⟩ <;> cases e2
    · exact g.io j ds e
  nio := fun j ds e a ea => by
    rcases get_set e with ⟨rfl, e2⟩ | ⟨ne, e⟩
    · rcases hs with rfl | ⟨d', v, rfl, h1, h2⟩ <;> cases e2
    · exact g.nio j ds e a ea
  pa := fun a ha => by
    obtain ⟨j, ds, e1, e2⟩ := g.pa a ha
    have ne : i ≠ j := fun q => by
      subst q
      rw [e1] at hi
      cases hi
    exact ⟨j, ds, by rw [List.getElem?_set_ne ne]; exact e1, e2⟩
  dis := fun j k a s t njk ej ek sj sk hj hk => by
    rcases get_set ej with ⟨rfl, e1⟩ | ⟨n1, e1⟩
    · subst e1
      rcases hs with rfl | ⟨d', v, rfl, h1, h2⟩ <;> cases sj
    · rcases get_set ek with ⟨rfl, e2⟩ | ⟨n2, e2⟩
      · subst e2
        rcases hs with rfl | ⟨d', v, rfl, h1, h2⟩ <;> cases sk
      · exact g.dis j k a s t njk e1 e2 sj sk hj hk
/-- the slot's own list is given away -/
theorem Good.frzAt (g : Good Z F σ H env) {i : Nat} {ds : List D} (h : env[i]? = some (.ow ds)) : ∃ a vs, σ[i]? = some (some (.ref a)) ∧ Rep Z.G (upd F a (.lst vs)) (.ref a) (.lst ds) ∧ Ex F (upd F a (.lst vs)) ∧ Good Z (upd F a (.lst vs)) σ H (env.set i (.sh (.lst ds))) := by
  obtain ⟨a, vs, h1, h2, h3, h4, h5⟩ := g.ow i _ ds h rfl
  have n0 : noIo env[i]? = true := by rw [h]; rfl
  have g1 := g.less (s' := .no) n0 (.inl rfl)
  have z0 : Z.H0 a = none := g.nio i ds h a h1
  have rp : Rep Z.G (upd F a (.lst vs)) (.ref a) (.lst ds) := .lst (.inl (.inl upd_same)) (h4.mono (Ex.new h3))
  have g2 := g1.frz (p := a) (o := .lst vs) h2 h3 z0 (fun j s e1 e2 e3 => by
    rcases get_set e1 with ⟨rfl, q⟩ | ⟨ne, q⟩
    · subst q
      cases e2
    · exact g.dis i j a _ s ne h q rfl e2 h1 e3)
  have g3 := g2.less (i := i) (s' := .sh (.lst ds)) (by
    by_cases hl : i < env.length
    · rw [List.getElem?_set_self hl]; rfl
    · rw [List.getElem?_eq_none (by rw [List.length_set]; omega)]; rfl) (.inr ⟨_, _, rfl, h1, rp⟩)
  rw [List.set_set] at g3
  exact ⟨a, vs, h1, rp, Ex.new h3, g3⟩
end

/-! ### readings by the machine -/
def RepX (Z : Zd) (F : Hp) (cls : Value) (d : Option Addr) (x : Xc) : Prop :=
  Z.C x.cls cls ∧ (x.bears ≠ [] → ∃ dx vs, d = some dx ∧ F dx = some (.xd ((x.bears.map (·.1)).zip vs)) ∧ RepL Z.G F vs (x.bears.map (·.2)))
def PostX (Z : Zd) (F : Hp) (σ : L2.St) (x : Xc) (env' : Env) : Prop := ∀ cls d H' F', Good Z F' σ H' env' → Ex F F' → RepX Z F' cls d x → Z.W cls d σ H'
def PostE (Z : Zd) (F : Hp) (σ : L2.St) (Q : VK) : OE → Prop
  | .ok r env' => ∀ v H' F', Good Z F' σ H' env' → Ex F F' → RepR Z F' σ env' H' v r → Q v H'
  | .exc x env' => PostX Z F σ x env'
  | .bad => False
def PostT (Z : Zd) (F : Hp) (σ : L2.St) (Q : Bool → Hp → Prop) : OT → Prop
  | .ok r env' => ∀ H' F', Good Z F' σ H' env' → Ex F F' → Q r H'
  | .exc x env' => PostX Z F σ x env'
  | .bad => False
def PostA (Z : Zd) (F : Hp) (σ : L2.St) (Q : List V → Hp → Prop) : OA → Prop
  | .ok ds env' => ∀ vs H' F', Good Z F' σ H' env' → Ex F F' → RepL Z.G F' vs ds → Q vs H'
  | .exc x env' => PostX Z F σ x env'
  | .bad => False
def tE (Z : Zd) (o : Env → OE) : TE := fun σ H Q => ∃ F env, Good Z F σ H env ∧ PostE Z F σ Q (o env)
def tT (Z : Zd) (o : Env → OT) : TT := fun σ H Q => ∃ F env, Good Z F σ H env ∧ PostT Z F σ Q (o env)
def tA (Z : Zd) (o : Env → OA) : TA := fun σ H Q => ∃ F env, Good Z F σ H env ∧ PostA Z F σ Q (o env)

theorem PE.imp {X : Cx} {e : Expr} {t t' : TE} (h : PE X e t) (i : ∀ σ H Q, t' σ H Q → t σ H Q) : PE X e t' := ⟨fun pins s σ H Q I q => h.run pins s σ H Q I (i σ H Q q)⟩
theorem PT.imp {X : Cx} {e : Expr} {t t' : TT} (h : PT X e t) (i : ∀ σ H Q, t' σ H Q → t σ H Q) : PT X e t' := ⟨fun pins s σ H Q I q => h.run pins s σ H Q I (i σ H Q q)⟩
theorem PW.imp {X : Cx} {e : Expr} {t t' : TT} (h : PW X e t) (i : ∀ σ H Q, t' σ H Q → t σ H Q) : PW X e t' := ⟨fun w pins s σ H Q I q => h.run w pins s σ H Q I (i σ H Q q)⟩
theorem PA.imp {X : Cx} {e : List Expr} {t t' : TA} (h : PA X e t) (i : ∀ σ H Q, t' σ H Q → t σ H Q) : PA X e t' := ⟨fun p pins s σ H Q I q => h.run p pins s σ H Q I (i σ H Q q)⟩
theorem PS.imp {X : Cx} {e : Stmt} {t t' : TS} (h : PS X e t) (i : ∀ D σ H, t' D σ H → t D σ H) : PS X e t' := ⟨fun pins s σ H D I q => h.run pins s σ H D I (i D σ H q)⟩
theorem PSs.imp {X : Cx} {e : List Stmt} {t t' : TS} (h : PSs X e t) (i : ∀ D σ H, t' D σ H → t D σ H) : PSs X e t' := ⟨fun pins s σ H D I q => h.run pins s σ H D I (i D σ H q)⟩
theorem PE.or {X : Cx} {e : Expr} {t t' : TE} (h : PE X e t) (h' : PE X e t') : PE X e (fun σ H Q => t σ H Q ∨ t' σ H Q) := ⟨fun pins s σ H Q I q => q.elim (h.run pins s σ H Q I) (h'.run pins s σ H Q I)⟩
theorem PI.or {X : Cx} {tg e : Expr} {t t' : TI} (h : PI X tg e t) (h' : PI X tg e t') : PI X tg e (fun σ H Q => t σ H Q ∨ t' σ H Q) := ⟨fun pins s σ H Q I q => q.elim (h.run pins s σ H Q I) (h'.run pins s σ H Q I)⟩
theorem PI.imp {X : Cx} {tg e : Expr} {t t' : TI} (h : PI X tg e t) (i : ∀ σ H Q, t' σ H Q → t σ H Q) : PI X tg e t' := ⟨fun pins s σ H Q I q => h.run pins s σ H Q I (i σ H Q q)⟩

section
variable {Z : Zd} {F F' F1 H H' : Hp} {σ : L2.St} {env : Env} {Q : VK} {QT : Bool → Hp → Prop} {QA : List V → Hp → Prop}
theorem PostX.up {x : Xc} {env' : Env} (e : Ex F F1) (h : PostX Z F σ x env') : PostX Z F1 σ x env' := fun cls d H' F' g x => h cls d H' F' g (e.trans x)
theorem PostE.up {o : OE} (e : Ex F F1) (h : PostE Z F σ Q o) : PostE Z F1 σ Q o := by
  cases o with
  | ok r env' => exact fun v H' F' g x => h v H' F' g (e.trans x)
  | exc x env' => exact PostX.up e h
  | bad => exact h
theorem PostT.up {o : OT} (e : Ex F F1) (h : PostT Z F σ QT o) : PostT Z F1 σ QT o := by
  cases o with
  | ok r env' => exact fun H' F' g x => h H' F' g (e.trans x)
  | exc x env' => exact PostX.up e h
  | bad => exact h
theorem PostA.up {o : OA} (e : Ex F F1) (h : PostA Z F σ QA o) : PostA Z F1 σ QA o := by
  cases o with
  | ok r env' => exact fun vs H' F' g x => h vs H' F' g (e.trans x)
  | exc x env' => exact PostX.up e h
  | bad => exact h
/-- an expression, then the rest: the value given away -/
theorem seqE {o : Env → OE} {f : R → Env → OE} {k : VK} (g : Good Z F σ H env) (h : PostE Z F σ Q ((o env).bind f))
    (c : ∀ r env1 v H1 F1, Good Z F1 σ H1 env1 → Ex F F1 → Rep Z.G F1 v r.fz → PostE Z F1 σ Q (f r env1) → k v H1) : tE Z o σ H k := by
  refine ⟨F, env, g, ?_⟩
  cases e : o env with
  | ok r env1 =>
    rw [e] at h
    intro v H1 F1 g1 x1 r1
    obtain ⟨F2, g2, x2, r2⟩ := g1.give r1
    exact c r env1 v H1 F2 g2 (x1.trans x2) r2 (PostE.up (x1.trans x2) h)
  | exc x env1 =>
    rw [e] at h
    exact h
  | bad =>
    rw [e] at h
    exact h
theorem seqET {o : Env → OE} {f : R → Env → OT} {k : VK} (g : Good Z F σ H env) (h : PostT Z F σ QT ((o env).bindT f))
    (c : ∀ r env1 v H1 F1, Good Z F1 σ H1 env1 → Ex F F1 → Rep Z.G F1 v r.fz → PostT Z F1 σ QT (f r env1) → k v H1) : tE Z o σ H k := by
  refine ⟨F, env, g, ?_⟩
  cases e : o env with
  | ok r env1 =>
    rw [e] at h
    intro v H1 F1 g1 x1 r1
    obtain ⟨F2, g2, x2, r2⟩ := g1.give r1
    exact c r env1 v H1 F2 g2 (x1.trans x2) r2 (PostT.up (x1.trans x2) h)
  | exc x env1 =>
    rw [e] at h
    exact h
  | bad =>
    rw [e] at h
    exact h
theorem seqEA {o : Env → OE} {f : R → Env → OA} {k : VK} (g : Good Z F σ H env) (h : PostA Z F σ QA ((o env).bindA f))
    (c : ∀ r env1 v H1 F1, Good Z F1 σ H1 env1 → Ex F F1 → Rep Z.G F1 v r.fz → PostA Z F1 σ QA (f r env1) → k v H1) : tE Z o σ H k := by
  refine ⟨F, env, g, ?_⟩
  cases e : o env with
  | ok r env1 =>
    rw [e] at h
    intro v H1 F1 g1 x1 r1
    obtain ⟨F2, g2, x2, r2⟩ := g1.give r1
    exact c r env1 v H1 F2 g2 (x1.trans x2) r2 (PostA.up (x1.trans x2) h)
  | exc x env1 =>
    rw [e] at h
    exact h
  | bad =>
    rw [e] at h
    exact h
theorem seqTE {o : Env → OT} {f : Bool → Env → OE} {k : Bool → Hp → Prop} (g : Good Z F σ H env) (h : PostE Z F σ Q ((o env).bindE f))
    (c : ∀ b env1 H1 F1, Good Z F1 σ H1 env1 → Ex F F1 → PostE Z F1 σ Q (f b env1) → k b H1) : tT Z o σ H k := by
  refine ⟨F, env, g, ?_⟩
  cases e : o env with
  | ok r env1 =>
    rw [e] at h
    exact fun H1 F1 g1 x1 => c r env1 H1 F1 g1 x1 (PostE.up x1 h)
  | exc x env1 =>
    rw [e] at h
    exact h
  | bad =>
    rw [e] at h
    exact h
theorem seqTT {o : Env → OT} {f : Bool → Env → OT} {k : Bool → Hp → Prop} (g : Good Z F σ H env) (h : PostT Z F σ QT ((o env).bind f))
    (c : ∀ b env1 H1 F1, Good Z F1 σ H1 env1 → Ex F F1 → PostT Z F1 σ QT (f b env1) → k b H1) : tT Z o σ H k := by
  refine ⟨F, env, g, ?_⟩
  cases e : o env with
  | ok r env1 =>
    rw [e] at h
    exact fun H1 F1 g1 x1 => c r env1 H1 F1 g1 x1 (PostT.up x1 h)
  | exc x env1 =>
    rw [e] at h
    exact h
  | bad =>
    rw [e] at h
    exact h
theorem seqAE {o : Env → OA} {f : List D → Env → OE} {k : List V → Hp → Prop} (g : Good Z F σ H env) (h : PostE Z F σ Q ((o env).bindE f))
    (c : ∀ ds env1 vs H1 F1, Good Z F1 σ H1 env1 → Ex F F1 → RepL Z.G F1 vs ds → PostE Z F1 σ Q (f ds env1) → k vs H1) : tA Z o σ H k := by
  refine ⟨F, env, g, ?_⟩
  cases e : o env with
  | ok r env1 =>
    rw [e] at h
    exact fun vs H1 F1 g1 x1 r1 => c r env1 vs H1 F1 g1 x1 r1 (PostE.up x1 h)
  | exc x env1 =>
    rw [e] at h
    exact h
  | bad =>
    rw [e] at h
    exact h
theorem seqAA {o : Env → OA} {f : List D → Env → OA} {k : List V → Hp → Prop} (g : Good Z F σ H env) (h : PostA Z F σ QA ((o env).bind f))
    (c : ∀ ds env1 vs H1 F1, Good Z F1 σ H1 env1 → Ex F F1 → RepL Z.G F1 vs ds → PostA Z F1 σ QA (f ds env1) → k vs H1) : tA Z o σ H k := by
  refine ⟨F, env, g, ?_⟩
  cases e : o env with
  | ok r env1 =>
    rw [e] at h
    exact fun vs H1 F1 g1 x1 r1 => c r env1 vs H1 F1 g1 x1 r1 (PostA.up x1 h)
  | exc x env1 =>
    rw [e] at h
    exact h
  | bad =>
    rw [e] at h
    exact h
end

/-! ### the machine's expressions and their nodes -/
def oVar (i : Nat) : Env → OE := fun env => match env[i]? with
  | some (.sh d) => .ok (.sh d) env
  | some (.ow ds) => .ok (.sh (.lst ds)) (env.set i (.sh (.lst ds)))
  | _ => .bad
def oC (d : D) : Env → OE := fun env => .ok (.sh d) env
def oOp2 (f : D → D → Option R) (oa ob : Env → OE) : Env → OE := fun env => (oa env).bind fun r1 e1 => (ob e1).bind fun r2 e2 => match f r1.fz r2.fz with
  | some z => .ok z e2
  | none => .bad
def oUn (f : D → Option R) (oa : Env → OE) : Env → OE := fun env => (oa env).bind fun r1 e1 => match f r1.fz with
  | some z => .ok z e1
  | none => .bad
def oAnd (oa ob : Env → OE) : Env → OE := fun env => (oa env).bind fun r e1 => match r.fz with
  | .bl true => ob e1
  | .bl false => .ok (.sh (.bl false)) e1
  | _ => .bad
def oOr (oa ob : Env → OE) : Env → OE := fun env => (oa env).bind fun r e1 => match r.fz with
  | .bl true => .ok (.sh (.bl true)) e1
  | .bl false => ob e1
  | _ => .bad
def oNot (oa : Env → OE) : Env → OE := fun env => (oa env).bind fun r e1 => match r.fz with
  | .bl b => .ok (.sh (.bl (!b))) e1
  | _ => .bad
def oIf (ot : Env → OT) (oa ob : Env → OE) : Env → OE := fun env => (ot env).bindE fun b e1 => if b = true then oa e1 else ob e1
def oNil : Env → OA := fun env => .ok [] env
def oCons (oa : Env → OE) (os : Env → OA) : Env → OA := fun env => (oa env).bindA fun r e1 => (os e1).bind fun ds e2 => .ok (r.fz :: ds) e2
def oTup (os : Env → OA) : Env → OE := fun env => (os env).bindE fun ds e1 => if ds.length ≤ 1000000 then .ok (.sh (.tup ds)) e1 else .bad
def oLst (os : Env → OA) : Env → OE := fun env => (os env).bindE fun ds e1 => if ds.length ≤ 1000000 then .ok (.ow ds) e1 else .bad
def oCallB (f : List D → Option R) (os : Env → OA) : Env → OE := fun env => (os env).bindE fun ds e1 => match f ds with
  | some z => .ok z e1
  | none => .bad
/-- truth of plain data -/
def truD : D → Option Bool
  | .non => some false
  | .bl b => some b
  | .int i => some (i != 0)
  | .str x => some (x.length != 0)
  | .tup ds => some (!ds.isEmpty)
  | .lst ds => some (!ds.isEmpty)
  | _ => none
def oTru (oa : Env → OE) : Env → OT := fun env => (oa env).bindT fun r e1 => match r.fz with
  | .bl b => .ok b e1
  | _ => .bad
def oTAnd (oa ob : Env → OT) : Env → OT := fun env => (oa env).bind fun b e1 => if b = true then ob e1 else .ok false e1
def oTOr (oa ob : Env → OT) : Env → OT := fun env => (oa env).bind fun b e1 => if b = true then .ok true e1 else ob e1
def oTNot (oa : Env → OT) : Env → OT := fun env => (oa env).bind fun b e1 => .ok (!b) e1
/-- a op b op' c -/
def oChain (f f' : D → D → Option R) (oa ob oc : Env → OE) : Env → OE := fun env => (oa env).bind fun r1 e1 => (ob e1).bind fun r2 e2 => match f r1.fz r2.fz with
  | some (.sh (.bl true)) => (oc e2).bind fun r3 e3 => match f' r2.fz r3.fz with
    | some z => .ok z e3
    | none => .bad
  | some (.sh (.bl false)) => .ok (.sh (.bl false)) e2
  | _ => .bad

/-- an operation by values does what the machine's does -/
def SOp (G : Gd) (r : R2) (f : D → D → Option R) : Prop := ∀ (Z : Zd) (F : Hp) (σ : L2.St) (H : Hp) (env : Env) (x y : V) (d e : D) (z : R) (Q : VK), Z.G = G → Good Z F σ H env → Rep Z.G F x d → Rep Z.G F y e → f d e = some z →
  (∀ v H' F', Good Z F' σ H' env → Ex F F' → RepR Z F' σ env H' v z → Q v H') → r x y H Q
def SUn (G : Gd) (r : V → Hp → VK → Prop) (f : D → Option R) : Prop := ∀ (Z : Zd) (F : Hp) (σ : L2.St) (H : Hp) (env : Env) (x : V) (d : D) (z : R) (Q : VK), Z.G = G → Good Z F σ H env → Rep Z.G F x d → f d = some z →
  (∀ v H' F', Good Z F' σ H' env → Ex F F' → RepR Z F' σ env H' v z → Q v H') → r x H Q
def SCall (G : Gd) (r : List V → Hp → VK → Prop) (f : List D → Option R) : Prop := ∀ (Z : Zd) (F : Hp) (σ : L2.St) (H : Hp) (env : Env) (xs : List V) (ds : List D) (z : R) (Q : VK), Z.G = G → Good Z F σ H env → RepL Z.G F xs ds → f ds = some z →
  (∀ v H' F', Good Z F' σ H' env → Ex F F' → RepR Z F' σ env H' v z → Q v H') → r xs H Q

section
variable {X : Cx} {Z : Zd} {a b c : Expr} {oa ob oc : Env → OE} {ta tb : Env → OT} {os : Env → OA} {es : List Expr} {pos : Pos}
theorem n_var (i : Nat) {x : PySem.Str} {pos : Pos} (hN : X.N[i]? = some x := by rfl) (hv : Vis X.env.scope x := by first | exact Or.inl rfl | exact Or.inr (Or.inl rfl) | exact Or.inr (Or.inr rfl)) (hd : (x == ("__debug__" : PySem.Str)) = false := by decide)
    (hcd : (x == ("__classdict__" : PySem.Str)) = false := by decide) : PE X (.Name x pos) (tE Z (oVar i)) := by
  refine PE.imp (pe_var hN hv hd hcd) fun σ H Q ⟨F, env, g, h⟩ => ?_
  unfold oVar at h
  cases e : env[i]? with
  | none =>
    rw [e] at h
    exact h.elim
  | some s =>
    rw [e] at h
    cases s with
    | sh d =>
      obtain ⟨v, h1, h2⟩ := g.sh i d e
      exact ⟨v, h1, h v H F g (Ex.refl F) h2⟩
    | ow ds =>
      obtain ⟨a, vs, h1, h2, h3, h4⟩ := g.frzAt e
      exact ⟨.ref a, h1, h (.ref a) H _ h4 h3 h2⟩
    | no => exact h.elim
    | io ds => exact h.elim
theorem n_c {v : V} {d : D} {e : Expr} (h : PE X e (tC v)) (r : ∀ F, Rep Z.G F v d) : PE X e (tE Z (oC d)) :=
  PE.imp h fun σ H Q ⟨F, env, g, q⟩ => q v H F g (Ex.refl F) (r F)
theorem n_int {i j pos} : PE X (.Constant (.int i) j pos) (tE Z (oC (.int i))) := n_c pe_int fun _ => .int i
theorem n_bl {i j pos} : PE X (.Constant (.bool i) j pos) (tE Z (oC (.bl i))) := n_c pe_bl fun _ => .bl i
theorem n_non {j pos} : PE X (.Constant .none j pos) (tE Z (oC .non)) := n_c pe_non fun _ => .non
theorem n_str {x j pos} : PE X (.Constant (.str x) j pos) (tE Z (oC (.str x))) := n_c pe_str fun _ => .str x
theorem op2_to {r : R2} {f : D → D → Option R} (hs : SOp Z.G r f) {σ : L2.St} {H : Hp} {Q : VK} (h : tE Z (oOp2 f oa ob) σ H Q) : tOp r (tE Z oa) (tE Z ob) σ H Q := by
  obtain ⟨F, env, g, h⟩ := h
  refine seqE g h fun r1 env1 v1 H1 F1 g1 x1 rp1 h1 => ?_
  refine seqE g1 h1 fun r2 env2 v2 H2 F2 g2 x2 rp2 h2 => ?_
  cases e : f r1.fz r2.fz with
  | none =>
    rw [e] at h2
    exact h2.elim
  | some z =>
    rw [e] at h2
    exact hs Z F2 σ H2 env2 v1 v2 _ _ z Q rfl g2 (rp1.mono x2) rp2 e h2
theorem n_bin {op : Operator} {r : R2} {f : D → D → Option R} (ho : OpR X (binaryOp op) r) (hs : SOp Z.G r f) (ha : PE X a (tE Z oa)) (hb : PE X b (tE Z ob)) : PE X (.BinOp a op b pos) (tE Z (oOp2 f oa ob)) :=
  PE.imp (pe_op ho ha hb) fun σ H Q h => op2_to hs h
theorem n_cmp {op : CmpOp} {r : R2} {f : D → D → Option R} (ho : OpR X (compareOp op) r) (hs : SOp Z.G r f) (ha : PE X a (tE Z oa)) (hb : PE X b (tE Z ob)) (hm : behindInMarks op b = false := by rfl) : PE X (.Compare a [op] [b] pos) (tE Z (oOp2 f oa ob)) :=
  PE.imp (pe_cmpR ho ha hb hm) fun σ H Q h => op2_to hs h
theorem n_ix {r : R2} {f : D → D → Option R} (ho : IxR X r) (hs : SOp Z.G r f) (ha : PE X a (tE Z oa)) (hb : PE X b (tE Z ob)) (hp : PlainIx b := by exact fun _ _ => rfl) : PE X (.Subscript a b pos) (tE Z (oOp2 f oa ob)) :=
  PE.imp (pe_ix ho ha hb hp) fun σ H Q h => op2_to hs h
theorem n_un {op : UnaryOp} {r : V → Hp → VK → Prop} {f : D → Option R} (ho : UnR X (unaryOp op) r) (hs : SUn Z.G r f) (ha : PE X a (tE Z oa)) : PE X (.UnaryOp op a pos) (tE Z (oUn f oa)) := by
  refine PE.imp (pe_un ho ha) fun σ H Q ⟨F, env, g, h⟩ => ?_
  refine seqE g h fun r1 env1 v1 H1 F1 g1 x1 rp1 h1 => ?_
  cases e : f r1.fz with
  | none =>
    rw [e] at h1
    exact h1.elim
  | some z =>
    rw [e] at h1
    exact hs Z F1 σ H1 env1 v1 _ z Q rfl g1 rp1 e h1
theorem bl_of {G : Gd} {F : Hp} {v : V} {b : Bool} (h : Rep G F v (.bl b)) : v = .bl b := by
  cases h
  rfl
theorem n_and {rest : List Expr} (ha : PE X a (tE Z oa)) (hb : PE X (.BoolOp .And (b :: rest) pos) (tE Z ob)) : PE X (.BoolOp .And (a :: b :: rest) pos) (tE Z (oAnd oa ob)) := by
  refine PE.imp (pe_and ha hb) fun σ H Q ⟨F, env, g, h⟩ => ?_
  refine seqE g h fun r1 env1 v1 H1 F1 g1 x1 rp1 h1 => ?_
  generalize r1.fz = d at h1 rp1
  cases d <;> try exact h1.elim
  rename_i k
  obtain rfl := bl_of rp1
  refine ⟨k, rfl, ?_⟩
  cases k with
  | true => exact ⟨F1, env1, g1, h1⟩
  | false => exact h1 _ H1 F1 g1 (Ex.refl F1) (.bl false)
theorem n_or {rest : List Expr} (ha : PE X a (tE Z oa)) (hb : PE X (.BoolOp .Or (b :: rest) pos) (tE Z ob)) : PE X (.BoolOp .Or (a :: b :: rest) pos) (tE Z (oOr oa ob)) := by
  refine PE.imp (pe_or ha hb) fun σ H Q ⟨F, env, g, h⟩ => ?_
  refine seqE g h fun r1 env1 v1 H1 F1 g1 x1 rp1 h1 => ?_
  generalize r1.fz = d at h1 rp1
  cases d <;> try exact h1.elim
  rename_i k
  obtain rfl := bl_of rp1
  refine ⟨k, rfl, ?_⟩
  cases k with
  | false => exact ⟨F1, env1, g1, h1⟩
  | true => exact h1 _ H1 F1 g1 (Ex.refl F1) (.bl true)
theorem n_one {op : BoolOp} (ha : PE X a (tE Z oa)) : PE X (.BoolOp op [a] pos) (tE Z oa) := pe_one ha
theorem n_not (ha : PE X a (tE Z oa)) : PE X (.UnaryOp .Not a pos) (tE Z (oNot oa)) := by
  refine PE.imp (pe_not ha) fun σ H Q ⟨F, env, g, h⟩ => ?_
  refine seqE g h fun r1 env1 v1 H1 F1 g1 x1 rp1 h1 => ?_
  generalize r1.fz = d at h1 rp1
  cases d <;> try exact h1.elim
  rename_i k
  obtain rfl := bl_of rp1
  exact ⟨k, rfl, h1 _ H1 F1 g1 (Ex.refl F1) (.bl (!k))⟩
theorem n_if (hc : PT X c (tT Z ta)) (ha : PE X a (tE Z oa)) (hb : PE X b (tE Z ob)) : PE X (.IfExp c a b pos) (tE Z (oIf ta oa ob)) := by
  refine PE.imp (pe_ifExp hc ha hb) fun σ H Q ⟨F, env, g, h⟩ => ?_
  refine seqTE g h fun k env1 H1 F1 g1 x1 h1 => ?_
  cases k with
  | true => exact ⟨F1, env1, g1, h1⟩
  | false => exact ⟨F1, env1, g1, h1⟩
theorem n_nil : PA X [] (tA Z oNil) := PA.imp pa_nil fun σ H Q ⟨F, env, g, h⟩ => h [] H F g (Ex.refl F) .nil
theorem n_cons (ha : PE X a (tE Z oa)) (hr : PA X es (tA Z os)) (hs : starEach (a :: es) X.env = (false, eval a X.env) :: starEach es X.env := by rfl) : PA X (a :: es) (tA Z (oCons oa os)) := by
  refine PA.imp (pa_cons ha hr hs) fun σ H Q ⟨F, env, g, h⟩ => ?_
  refine seqEA g h fun r1 env1 v1 H1 F1 g1 x1 rp1 h1 => ?_
  refine seqAA g1 h1 fun ds env2 vs H2 F2 g2 x2 rp2 h2 => ?_
  exact h2 (v1 :: vs) H2 F2 g2 (Ex.refl F2) (.cons (rp1.mono x2) rp2)
theorem big_line : (1000000 : Nat) ≤ sizeLine := by
  rw [sizeLine_eq]
  decide
def tTupN (t : TA) : TE := fun σ H Q => t σ H fun xs H1 => xs.length ≤ sizeLine ∧ ∀ (p : Addr) (o : Obj), H1 p = none → o.dict = none → Q (.ref p) (upd H1 p (.frz o (.tup xs)))
theorem pe_tupN {t : TA} {x1} (h : PA X es t) : PE X (.Tuple es x1 pos) (tTupN t) := by
  refine ⟨fun pins s σ H Q I hq => ?_⟩
  refine wpAny_Tuple_spliced (thn (h.run pos pins s σ H _ I hq) fun us s1 ⟨xs, H1, I1, r, z, q⟩ => ⟨by rw [← r.length]; exact z, ?_⟩)
  refine ⟨.ref s1.heap.objs.size, _, I1.laid (t' := s1.toks) (o := .frz { cls := .type "tuple", data := .seq us.toArray } (.tup xs)) (fun b u e => Heap.get?_push_of_some _ e) (Nat.le_refl _) ?_, rfl, q _ _ (I1.hok.fresh (Nat.le_refl _)) rfl⟩
  exact ⟨Heap.get?_push_size _ rfl, z, us, r, ⟨_, Heap.get?_push_size _ rfl, rfl, _, rfl⟩⟩
theorem n_tup {x1} (h : PA X es (tA Z os)) : PE X (.Tuple es x1 pos) (tE Z (oTup os)) := by
  refine PE.imp (pe_tupN h) fun σ H Q ⟨F, env, g, q⟩ => ?_
  refine seqAE g q fun ds env1 vs H1 F1 g1 x1 rp h1 => ?_
  by_cases hl : ds.length ≤ 1000000
  · rw [if_pos hl] at h1
    refine ⟨Nat.le_trans (by rw [rp.length]; exact hl) big_line, fun p o hp ho => ?_⟩
    exact h1 _ _ _ (g1.layF hp) (Ex.new (g1.fresh hp)) (.tup (.new ho) (rp.mono (Ex.new (g1.fresh hp))))
  · rw [if_neg hl] at h1
    exact h1.elim
theorem n_lst (h : PA X es (tA Z os)) : PE X (.List es pos) (tE Z (oLst os)) := by
  refine PE.imp (pe_lst h) fun σ H Q ⟨F, env, g, q⟩ => ?_
  refine seqAE g q fun ds env1 vs H1 F1 g1 x1 rp h1 => ?_
  by_cases hl : ds.length ≤ 1000000
  · rw [if_pos hl] at h1
    refine ⟨Nat.le_trans (by rw [rp.length]; exact hl) big_line, fun p hp => ?_⟩
    exact h1 _ _ _ (g1.lay hp) (Ex.refl F1) (g1.mine hp rp)
  · rw [if_neg hl] at h1
    exact h1.elim
theorem callB_to {r : List V → Hp → VK → Prop} {f : List D → Option R} (hs : SCall Z.G r f) {σ : L2.St} {H : Hp} {Q : VK} (h : tE Z (oCallB f os) σ H Q) : tCB r (tA Z os) σ H Q := by
  obtain ⟨F, env, g, h⟩ := h
  refine seqAE g h fun ds env1 vs H1 F1 g1 x1 rp h1 => ?_
  cases e : f ds with
  | none =>
    rw [e] at h1
    exact h1.elim
  | some z =>
    rw [e] at h1
    exact hs Z F1 σ H1 env1 vs ds z Q rfl g1 rp e h1
/-! tests -/
theorem n_tru (ha : PE X a (tE Z oa)) (he : ∀ whole, isTrue a X.env whole = (do let v ← whole; standAt a.pos; holding [v] (truthy v)) := by intro _; rfl) : PT X a (tT Z (oTru oa)) := by
  refine PT.imp (pt_truth ha he) fun σ H Q ⟨F, env, g, h⟩ => ?_
  refine seqET g h fun r1 env1 v1 H1 F1 g1 x1 rp1 h1 => ?_
  generalize r1.fz = d at h1 rp1
  cases d <;> try exact h1.elim
  rename_i k
  obtain rfl := bl_of rp1
  exact ⟨k, rfl, h1 H1 F1 g1 (Ex.refl F1)⟩
theorem test_to {σ : L2.St} {H : Hp} {Q : Bool → Hp → Prop} (h : tT Z (oTru oa) σ H Q) : tTest (tE Z oa) σ H Q := by
  obtain ⟨F, env, g, h⟩ := h
  refine seqET g h fun r1 env1 v1 H1 F1 g1 x1 rp1 h1 => ?_
  generalize r1.fz = d at h1 rp1
  cases d <;> try exact h1.elim
  rename_i k
  obtain rfl := bl_of rp1
  exact ⟨k, rfl, h1 H1 F1 g1 (Ex.refl F1)⟩
/-- a comparison as a test -/
theorem n_tcmp {op : CmpOp} {r : R2} {f : D → D → Option R} (ho : OpR X (compareOp op) r) (hs : SOp Z.G r f) (ha : PE X a (tE Z oa)) (hb : PE X b (tE Z ob)) (hm : behindInMarks op b = false := by rfl) : PT X (.Compare a [op] [b] pos) (tT Z (oTru (oOp2 f oa ob))) := by
  refine PT.imp (pt_cmpR ho ha hb hm) fun σ H Q h => ?_
  obtain ⟨F, env, g, h⟩ := test_to h
  exact op2_to hs ⟨F, env, g, h⟩
theorem n_tnot (ha : PT X a (tT Z ta)) : PT X (.UnaryOp .Not a pos) (tT Z (oTNot ta)) := by
  refine PT.imp (pt_not ha) fun σ H Q ⟨F, env, g, h⟩ => ?_
  exact seqTT g h fun k env1 H1 F1 g1 x1 h1 => h1 H1 F1 g1 (Ex.refl F1)
theorem n_tand {rest : List Expr} (ha : PT X a (tT Z ta)) (hb : PW X (.BoolOp .And (b :: rest) pos) (tT Z tb)) : PW X (.BoolOp .And (a :: b :: rest) pos) (tT Z (oTAnd ta tb)) := by
  refine PW.imp (pw_and ha hb) fun σ H Q ⟨F, env, g, h⟩ => ?_
  refine seqTT g h fun k env1 H1 F1 g1 x1 h1 => ?_
  cases k with
  | true => exact ⟨F1, env1, g1, h1⟩
  | false => exact h1 H1 F1 g1 (Ex.refl F1)
theorem n_tor {rest : List Expr} (ha : PT X a (tT Z ta)) (hb : PW X (.BoolOp .Or (b :: rest) pos) (tT Z tb)) : PW X (.BoolOp .Or (a :: b :: rest) pos) (tT Z (oTOr ta tb)) := by
  refine PW.imp (pw_or ha hb) fun σ H Q ⟨F, env, g, h⟩ => ?_
  refine seqTT g h fun k env1 H1 F1 g1 x1 h1 => ?_
  cases k with
  | false => exact ⟨F1, env1, g1, h1⟩
  | true => exact h1 H1 F1 g1 (Ex.refl F1)
theorem n_tand1 (ha : PT X a (tT Z ta)) : PW X (.BoolOp .And [a] pos) (tT Z ta) := pw_and1 ha
theorem n_tor1 (ha : PT X a (tT Z ta)) : PW X (.BoolOp .Or [a] pos) (tT Z ta) := pw_or1 ha
theorem chain_to {r r' : R2} {f f' : D → D → Option R} (hs : SOp Z.G r f) (hs' : SOp Z.G r' f') {σ : L2.St} {H : Hp} {Q : VK} (h : tE Z (oChain f f' oa ob oc) σ H Q) : tChain r r' (tE Z oa) (tE Z ob) (tE Z oc) σ H Q := by
  obtain ⟨F, env, g, h⟩ := h
  refine seqE g h fun r1 env1 v1 H1 F1 g1 x1 rp1 h1 => ?_
  refine seqE g1 h1 fun r2 env2 v2 H2 F2 g2 x2 rp2 h2 => ?_
  cases e : f r1.fz r2.fz with
  | none =>
    rw [e] at h2
    exact h2.elim
  | some z =>
    rw [e] at h2
    refine hs Z F2 σ H2 env2 v1 v2 _ _ z _ rfl g2 (rp1.mono x2) rp2 e fun v H3 F3 g3 x3 rp3 => ?_
    cases z with
    | ow ds => exact h2.elim
    | sh d =>
      cases d <;> try exact h2.elim
      rename_i k
      obtain rfl := bl_of rp3
      refine ⟨k, rfl, ?_⟩
      cases k with
      | true =>
        refine seqE g3 (PostE.up x3 h2) fun r4 env4 v4 H4 F4 g4 x4 rp4 h4 => ?_
        cases e' : f' r2.fz r4.fz with
        | none =>
          rw [e'] at h4
          exact h4.elim
        | some z' =>
          rw [e'] at h4
          exact hs' Z F4 σ H4 env4 v2 v4 _ _ z' Q rfl g4 (rp2.mono (x3.trans x4)) rp4 e' h4
      | false => exact h2 _ H3 F3 g3 x3 (.bl false)
theorem n_chain {op op' : CmpOp} {r r' : R2} {f f' : D → D → Option R} (ho : OpR X (compareOp op) r) (ho' : OpR X (compareOp op') r') (hs : SOp Z.G r f) (hs' : SOp Z.G r' f') (ha : PE X a (tE Z oa)) (hb : PE X b (tE Z ob)) (hc : PE X c (tE Z oc))
    (hm : lastMarks [op, op'] [b, c] = false := by rfl) : PE X (.Compare a [op, op'] [b, c] pos) (tE Z (oChain f f' oa ob oc)) :=
  PE.imp (pe_chain ho ho' ha hb hc hm) fun σ H Q h => chain_to hs hs' h
theorem n_tchain {op op' : CmpOp} {r r' : R2} {f f' : D → D → Option R} (ho : OpR X (compareOp op) r) (ho' : OpR X (compareOp op') r') (hs : SOp Z.G r f) (hs' : SOp Z.G r' f') (ha : PE X a (tE Z oa)) (hb : PE X b (tE Z ob)) (hc : PE X c (tE Z oc))
    (hm : lastMarks [op, op'] [b, c] = false := by rfl) : PT X (.Compare a [op, op'] [b, c] pos) (tT Z (oTru (oChain f f' oa ob oc))) := by
  refine PT.imp (pt_chain ho ho' ha hb hc hm) fun σ H Q h => ?_
  obtain ⟨F, env, g, h⟩ := test_to h
  exact chain_to hs hs' ⟨F, env, g, h⟩
end
end FE

namespace FE
open PySem PySem.Spec PyProof.Rows L2

/-! ### plain data -/
mutual
def D.pyd : D → PyData
  | .non => .none
  | .bl b => .bool b
  | .int i => .int i
  | .str x => .str x
  | .tup ds => .tuple (pydL ds)
  | .lst ds => .list (pydL ds)
  | _ => .none
def pydL : List D → List PyData
  | [] => []
  | d :: ds => D.pyd d :: pydL ds
end
mutual
def D.plain : D → Bool
  | .non => true
  | .bl _ => true
  | .int _ => true
  | .str _ => true
  | .tup ds => plainL ds
  | .lst ds => plainL ds
  | _ => false
def plainL : List D → Bool
  | [] => true
  | d :: ds => D.plain d && plainL ds
end
section
variable {G : Gd} {F H : Hp}
mutual
theorem Rep.dp : ∀ {v : V} {d : D}, Rep G F v d → d.plain = true → Dp G.K F v d.pyd
  | _, _, .non, _ => .non
  | _, _, .bl b, _ => .bl b
  | _, _, .int i, _ => .int i
  | _, _, .str x, _ => .str x
  | _, _, .tup h r, p => .tup h.t (RepL.dp r (by rw [D.plain] at p; exact p))
  | _, _, .wtp h r, p => by
    simp [D.plain] at p
  | _, _, .lst h r, p => .lst h.sq (RepL.dp r (by rw [D.plain] at p; exact p))
  | _, _, .dic h l r, p => by
    simp [D.plain] at p
  | _, _, .obj h h2 g l r, p => by
    simp [D.plain] at p
  | _, _, .dev j x, p => by
    simp [D.plain] at p
theorem RepL.dp : ∀ {vs : List V} {ds : List D}, RepL G F vs ds → plainL ds = true → DpAll G.K F vs (pydL ds)
  | _, _, .nil, _ => .nil
  | _, _, .cons h r, p => by
    rw [plainL, Bool.and_eq_true] at p
    exact .cons (Rep.dp h p.1) (RepL.dp r p.2)
end
end
/-- one scalar beside another -/
def flatD : D → Bool
  | .non => true
  | .bl _ => true
  | .int _ => true
  | .str _ => true
  | _ => false
def D.fv : D → V
  | .non => .non
  | .bl b => .bl b
  | .int i => .int i
  | .str x => .str x
  | _ => .non
theorem Rep.fv {G : Gd} {F : Hp} {v : V} {d : D} (h : Rep G F v d) (p : flatD d = true) : v = d.fv ∧ flatV v = true := by
  cases h <;> first | exact ⟨rfl, rfl⟩ | cases p
theorem RepL.fv {G : Gd} {F : Hp} : ∀ {vs : List V} {ds : List D}, RepL G F vs ds → ds.all flatD = true → vs = ds.map D.fv ∧ vs.all flatV = true
  | _, _, .nil, _ => ⟨rfl, rfl⟩
  | _, _, .cons h r, p => by
    rw [List.all_cons, Bool.and_eq_true] at p
    obtain ⟨e1, f1⟩ := h.fv p.1
    obtain ⟨e2, f2⟩ := RepL.fv r p.2
    exact ⟨by rw [List.map_cons, ← e1, ← e2], by rw [List.all_cons, f1, f2]; rfl⟩

def okD (d : D) : Bool := d.plain && SeqAt.shaped d.pyd
def eqD : D → D → Option Bool
  | .int i, .int j => some (decide (i = j))
  | .str x, .str y => some (decide (x = y))
  | .bl a, .bl b => some (decide (a = b))
  | .non, .non => some true
  | d, e => if okD d && okD e then some (PyData.eqv d.pyd e.pyd) else none
def bR : Option Bool → Option R := fun o => o.map fun b => .sh (.bl b)
def eqF : D → D → Option R := fun d e => bR (eqD d e)
def neF : D → D → Option R := fun d e => bR ((eqD d e).map (! ·))
def rEqU (K : PySem.W.Frag) : R2 := fun x y H Q => rEq x y H Q ∨ rEqD K x y H Q
def rNeU (K : PySem.W.Frag) : R2 := fun x y H Q => rNe x y H Q ∨ rNeD K x y H Q
theorem op_eqU {X : Cx} (hu : X.A.units + 64 < cLine) : OpR X (compareOp .Eq) (rEqU X.K) := op_eq.or (op_eqD hu)
theorem op_neU {X : Cx} (hu : X.A.units + 64 < cLine) : OpR X (compareOp .NotEq) (rNeU X.K) := op_ne.or (op_neD hu)
theorem eqD_cases {d e : D} {b : Bool} (h : eqD d e = some b) : (∃ i j, d = .int i ∧ e = .int j ∧ b = decide (i = j)) ∨ (∃ i j, d = .str i ∧ e = .str j ∧ b = decide (i = j)) ∨ (∃ i j, d = .bl i ∧ e = .bl j ∧ b = decide (i = j)) ∨ (d = .non ∧ e = .non ∧ b = true) ∨
    (okD d = true ∧ okD e = true ∧ b = PyData.eqv d.pyd e.pyd) := by
  unfold eqD at h
  split at h
  · exact .inl ⟨_, _, rfl, rfl, (Option.some.inj h).symm⟩
  · exact .inr (.inl ⟨_, _, rfl, rfl, (Option.some.inj h).symm⟩)
  · exact .inr (.inr (.inl ⟨_, _, rfl, rfl, (Option.some.inj h).symm⟩))
  · exact .inr (.inr (.inr (.inl ⟨rfl, rfl, (Option.some.inj h).symm⟩)))
  · split at h
    · rename_i c
      rw [Bool.and_eq_true] at c
      exact .inr (.inr (.inr (.inr ⟨c.1, c.2, (Option.some.inj h).symm⟩)))
    · cases h
theorem dv_int {i j : Int} : decide (V.int i = V.int j) = decide (i = j) := by
  by_cases h : i = j
  · rw [h]; simp
  · simp [h]
theorem dv_str {i j : PySem.Str} : decide (V.str i = V.str j) = decide (i = j) := by
  by_cases h : i = j
  · rw [h]; simp
  · simp [h]
theorem dv_bl {i j : Bool} : decide (V.bl i = V.bl j) = decide (i = j) := by
  by_cases h : i = j
  · rw [h]; simp
  · simp [h]
theorem okD_dp {G : Gd} {F : Hp} {v : V} {d : D} (h : Rep G F v d) (o : okD d = true) : Dp G.K F v d.pyd ∧ SeqAt.shaped d.pyd = true := by
  unfold okD at o
  rw [Bool.and_eq_true] at o
  exact ⟨h.dp o.1, o.2⟩
theorem s_eq {G : Gd} : SOp G (rEqU G.K) eqF := by
  intro Z F σ H env x y d e z Q hG g rx ry h q
  obtain ⟨b, hb, rfl⟩ : ∃ b, eqD d e = some b ∧ z = .sh (.bl b) := by
    unfold eqF bR at h
    cases q : eqD d e with
    | none => rw [q] at h; cases h
    | some b =>
      rw [q] at h
      exact ⟨b, rfl, (Option.some.inj h).symm⟩
  have fin : Q (.bl b) H := q _ H F g (Ex.refl F) (.bl b)
  rcases eqD_cases hb with ⟨i, j, rfl, rfl, rfl⟩ | ⟨i, j, rfl, rfl, rfl⟩ | ⟨i, j, rfl, rfl, rfl⟩ | ⟨rfl, rfl, rfl⟩ | ⟨o1, o2, rfl⟩
  · cases rx; cases ry
    exact .inl ⟨rfl, by rw [dv_int]; exact fin⟩
  · cases rx; cases ry
    exact .inl ⟨rfl, by rw [dv_str]; exact fin⟩
  · cases rx; cases ry
    exact .inl ⟨rfl, by rw [dv_bl]; exact fin⟩
  · cases rx; cases ry
    exact .inl ⟨rfl, fin⟩
  · subst hG
    obtain ⟨p1, s1⟩ := okD_dp (rx.mono g.fh) o1
    obtain ⟨p2, s2⟩ := okD_dp (ry.mono g.fh) o2
    exact .inr ⟨_, _, p1, p2, s1, s2, fin⟩
theorem s_ne {G : Gd} : SOp G (rNeU G.K) neF := by
  intro Z F σ H env x y d e z Q hG g rx ry h q
  obtain ⟨b, hb, rfl⟩ : ∃ b, eqD d e = some b ∧ z = .sh (.bl (!b)) := by
    unfold neF bR at h
    cases q : eqD d e with
    | none => rw [q] at h; cases h
    | some b =>
      rw [q] at h
      exact ⟨b, rfl, (Option.some.inj h).symm⟩
  have fin : Q (.bl (!b)) H := q _ H F g (Ex.refl F) (.bl (!b))
  rcases eqD_cases hb with ⟨i, j, rfl, rfl, rfl⟩ | ⟨i, j, rfl, rfl, rfl⟩ | ⟨i, j, rfl, rfl, rfl⟩ | ⟨rfl, rfl, rfl⟩ | ⟨o1, o2, rfl⟩
  · cases rx; cases ry
    exact .inl ⟨rfl, by rw [dv_int]; exact fin⟩
  · cases rx; cases ry
    exact .inl ⟨rfl, by rw [dv_str]; exact fin⟩
  · cases rx; cases ry
    exact .inl ⟨rfl, by rw [dv_bl]; exact fin⟩
  · cases rx; cases ry
    exact .inl ⟨rfl, fin⟩
  · subst hG
    obtain ⟨p1, s1⟩ := okD_dp (rx.mono g.fh) o1
    obtain ⟨p2, s2⟩ := okD_dp (ry.mono g.fh) o2
    exact .inr ⟨_, _, p1, p2, s1, s2, fin⟩

/-! ### + - * // .. -/
def iI (f : Int → Int → Int) : D → D → Option R
  | .int i, .int j => some (.sh (.int (f i j)))
  | _, _ => none
def iB (f : Int → Int → Bool) : D → D → Option R
  | .int i, .int j => some (.sh (.bl (f i j)))
  | _, _ => none
theorem s_iI {G : Gd} {f : Int → Int → Int} : SOp G (rI0 fun i j => .int (f i j)) (iI f) := by
  intro Z F σ H env x y d e z Q hG g rx ry h q
  unfold iI at h
  split at h
  · cases rx; cases ry; cases h
    exact ⟨_, _, rfl, rfl, q _ H F g (Ex.refl F) (.int _)⟩
  · cases h
theorem s_iB {G : Gd} {f : Int → Int → Bool} : SOp G (rI0 fun i j => .bl (f i j)) (iB f) := by
  intro Z F σ H env x y d e z Q hG g rx ry h q
  unfold iB at h
  split at h
  · cases rx; cases ry; cases h
    exact ⟨_, _, rfl, rfl, q _ H F g (Ex.refl F) (.bl _)⟩
  · cases h
def addF : D → D → Option R
  | .int i, .int j => some (.sh (.int (i + j)))
  | .str x, .str y => if x.length + y.length ≤ 1000000 then some (.sh (.str (x ++ y))) else none
  | .lst xs, .lst ys => if xs.length + ys.length ≤ 1000000 then some (.ow (xs ++ ys)) else none
  | .tup xs, .tup ys => if xs.length + ys.length ≤ 1000000 then some (.sh (.tup (xs ++ ys))) else none
  | _, _ => none
def rCatL (K : PySem.W.Frag) : R2 := fun x y H Q => ∃ l b xs zs, x = .ref l ∧ y = .ref b ∧ Lr K H l xs ∧ Lr K H b zs ∧ xs.length + zs.length ≤ sizeLine ∧ ∀ p, H p = none → Q (.ref p) (upd H p (.lst (xs ++ zs)))
theorem Inv.lr {X : Cx} {pins : List (Addr × Obj)} {σ : L2.St} {H : Hp} {s : Shared} {l : Addr} {xs : List V} (I : Inv X pins σ H s) (hH : Lr X.K H l xs) : xs.length ≤ sizeLine ∧ ∃ (its : List Value) (n : Nat), Vals xs its ∧ xs.length = its.length ∧ s.heap.get? l = some { cls := .type "list", data := .seq its.toArray n } := by
  rcases hH with hH | ⟨its, n, h1, h2, h3⟩
  · obtain ⟨z, its, n, r, e⟩ := hH.ok I.hok
    exact ⟨z, its, n, r, r.length, e⟩
  · exact ⟨by rw [h3.length]; exact h2, its, n, h3, h3.length, I.kIn _ _ h1⟩
theorem op_catL {X : Cx} : OpR X (binaryOp .Add) (rCatL X.K) := by
  intro pins s σ H x y v u Q I rx ry h
  obtain ⟨l, b, xs, zs, rfl, rfl, hH, hB, hz, q⟩ := h
  cases rx
  cases ry
  obtain ⟨z, its, n, r, hl, e⟩ := Inv.lr I hH
  obtain ⟨z2, its2, n2, r2, hl2, e2⟩ := Inv.lr I hB
  refine PySem.P.add_list e e2 ?_ (by rw [List.size_toArray, List.size_toArray]; omega)
  rw [show its.toArray ++ its2.toArray = (its ++ its2).toArray by simp]
  exact ⟨.ref _, _, I.lnew (t' := s.toks) (r.append r2) (by rw [List.length_append]; omega), rfl, q _ I.fresh⟩
/-- t + u -/
def rCatN (K : PySem.W.Frag) : R2 := fun x y H Q => ∃ a b xs ys, x = .ref a ∧ y = .ref b ∧ SqT K H a xs ∧ SqT K H b ys ∧ xs.length + ys.length ≤ sizeLine ∧
  (xs = [] → Q (.ref b) H) ∧ (xs ≠ [] → ys = [] → Q (.ref a) H) ∧ (xs ≠ [] → ys ≠ [] → ∀ (p : Addr) (o : Obj), H p = none → o.dict = none → Q (.ref p) (upd H p (.frz o (.tup (xs ++ ys)))))
theorem op_catN {X : Cx} : OpR X (binaryOp .Add) (rCatN X.K) := by
  intro pins s σ H x y v u Q I rx ry h
  obtain ⟨a, b, xs, ys, rfl, rfl, ha, hb, hz, q0, q1, q2⟩ := h
  cases rx
  cases ry
  obtain ⟨its, r1, p1, _⟩ := I.tuple ha
  obtain ⟨its2, r2, p2, _⟩ := I.tuple hb
  by_cases hx : xs = []
  · subst hx
    cases r1
    exact cat_tup0 p1 p2 ⟨.ref b, H, I, rfl, q0 rfl⟩
  · refine HT.cat_tup p1 p2 (fun z => hx (r1.nil_iff.mp z)) (fun z => ⟨.ref a, H, I, rfl, q1 hx (r2.nil_iff.mp z)⟩) (fun z => ?_) (by rw [← r1.length, ← r2.length]; exact hz)
    refine ⟨.ref s.heap.objs.size, _, I.laid (t' := s.toks) (o := .frz { cls := .type "tuple", data := .seq (its ++ its2).toArray } (.tup (xs ++ ys))) (fun b ob q => Heap.get?_push_of_some _ q) (Nat.le_refl _) ?_, rfl, q2 hx (fun w => z (r2.nil_iff.mpr w)) _ _ (I.hok.fresh (Nat.le_refl _)) rfl⟩
    exact ⟨Heap.get?_push_size _ rfl, by rw [List.length_append]; exact hz, _, r1.append r2, IsTup.new _ _⟩
def rAddU (K : PySem.W.Frag) : R2 := fun x y H Q => rI0 (fun i j => .int (i + j)) x y H Q ∨ (fun x y H Q => ∃ i j, x = .str i ∧ y = .str j ∧ i.length + j.length ≤ sizeLine ∧ Q (.str (i ++ j)) H : R2) x y H Q ∨ rCatL K x y H Q ∨ rCatN K x y H Q
theorem op_addU {X : Cx} : OpR X (binaryOp .Add) (rAddU X.K) := op_add.or (op_add_str.or (op_catL.or op_catN))
theorem s_add {G : Gd} : SOp G (rAddU G.K) addF := by
  intro Z F σ H env x y d e z Q hG g rx ry h q
  unfold addF at h
  split at h
  · cases rx; cases ry; cases h
    exact .inl ⟨_, _, rfl, rfl, q _ H F g (Ex.refl F) (.int _)⟩
  · split at h
    · rename_i hl
      cases rx; cases ry; cases h
      exact .inr (.inl ⟨_, _, rfl, rfl, Nat.le_trans hl big_line, q _ H F g (Ex.refl F) (.str _)⟩)
    · cases h
  · split at h
    · rename_i hl
      cases h
      cases rx with
      | lst h1 r1 =>
        cases ry with
        | lst h2 r2 =>
          subst hG
          refine .inr (.inr (.inl ⟨_, _, _, _, rfl, rfl, g.fh.lr h1, g.fh.lr h2, Nat.le_trans (by rw [r1.length, r2.length]; exact hl) big_line, fun p hp => ?_⟩))
          exact q _ _ F (g.lay hp) (Ex.refl F) (g.mine hp (r1.append r2))
    · cases h
  · split at h
    · rename_i hl
      cases h
      cases rx with
      | tup h1 r1 =>
        cases ry with
        | tup h2 r2 =>
          subst hG
          refine .inr (.inr (.inr ⟨_, _, _, _, rfl, rfl, g.fh.t h1.t, g.fh.t h2.t, Nat.le_trans (by rw [r1.length, r2.length]; exact hl) big_line, fun hx => ?_, fun hx hy => ?_, fun hx hy p o hp ho => ?_⟩))
          · refine q _ H F g (Ex.refl F) ?_
            subst hx
            cases r1
            exact .tup h2 r2
          · refine q _ H F g (Ex.refl F) ?_
            subst hy
            cases r2
            rw [List.append_nil]
            exact .tup h1 r1
          · exact q _ _ _ (g.layF hp) (Ex.new (g.fresh hp)) (.tup (.new ho) ((r1.append r2).mono (Ex.new (g.fresh hp))))
    · cases h
  · cases h
def mulF : D → D → Option R
  | .int i, .int j => if i.natAbs.log2 + j.natAbs.log2 < 1000000 then some (.sh (.int (i * j))) else none
  | .str x, .int n => if 0 ≤ n ∧ n ≤ 1000 ∧ x.length ≤ 1000 then some (.sh (.str (Txt.mul x n))) else none
  | .lst xs, .int n => if 0 ≤ n ∧ n ≤ 1000 ∧ xs.length ≤ 1000 then some (.ow (List.replicate n.toNat xs).flatten) else none
  | _, _ => none
def rMulS : R2 := fun x y H Q => ∃ z n, x = .str z ∧ y = .int n ∧ 0 ≤ n ∧ n ≤ 1000 ∧ z.length ≤ 1000 ∧ Q (.str (Txt.mul z n)) H
theorem mulOk_small {z : PySem.Str} {n : Int} (h0 : 0 ≤ n) (h1 : n ≤ 1000) (hz : z.length ≤ 1000) : MulOk z n := by
  refine ⟨?_, fun a b => ?_, fun a b => ?_⟩
  · rw [decide_eq_false (by omega), decide_eq_false (by omega)]; rfl
  · intro hc
    have h2 : (9000000000000000 : Int) ≤ (2 ^ 63 - 1) / n := by
      rw [Int.le_ediv_iff_mul_le (by omega)]
      have : (9000000000000000 : Int) * n ≤ 9000000000000000 * 1000 := Int.mul_le_mul_of_nonneg_left h1 (by omega)
      omega
    omega
  · have h2 : z.length * n.toNat ≤ 1000 * 1000 := Nat.mul_le_mul hz (by omega)
    unfold Builtin.Str.tooLong
    have h3 : (1000000 : Nat) ≤ sizeLine := big_line
    simp only [decide_eq_false_iff_not]
    omega
theorem op_mulS {X : Cx} : OpR X (binaryOp .Mult) rMulS := by
  intro pins s σ H x y v u Q I rx ry h
  obtain ⟨z, n, rfl, rfl, h0, h1, hz, q⟩ := h
  obtain ⟨t, rfl⟩ := rx
  obtain ⟨t', rfl⟩ := ry
  exact SB.mul (mulOk_small h0 h1 hz) fun t' k => ⟨.str _, H, I.tok k, ⟨_, rfl⟩, q⟩
end FE

namespace FE
open PySem PySem.Spec PyProof.Rows L2

/-! ### defs whose promise knows that no display of a container is under way -/
section
variable (P : Program) (w : World) (K : PySem.W.Frag) (mg : PySem.Str → Option Value) (base : Heap)
structure FnG (k : Nat) (f : Addr) (fd : FuncData) (ps : List PySem.Str) (sp : Sp) : Prop where
  len : ∀ vs H Q E, sp vs H Q E → vs.length = ps.length
  run : ∀ (A : Around) (outer : List PySem.Env) (s : Shared) (H : Hp) (args : Args) (us : List Value) (vs : List V) (Q : VK) (E : XK),
    Room k A → A.guards = some [] → Env0 P w K mg base A outer s H → BindsTo s fd args (ps.zip us) → Vals vs us → sp vs H Q E →
      codeAny (model P w) A (.call (.ref f) args) (CR (L2.CX P w) outer P w H s Q E) s
end
section
variable {P : Program} {w : World} {K : PySem.W.Frag} {mg : PySem.Str → Option Value} {base : Heap} {k : Nat} {f : Addr} {fd : FuncData} {N ps : List PySem.Str} {sp : Sp}
theorem FnG.mono {j : Nat} (F : FnG P w K mg base j f fd ps sp) (h : j ≤ k) : FnG P w K mg base k f fd ps sp :=
  ⟨F.len, fun A outer s H args us vs Q E r => F.run A outer s H args us vs Q E (r.mono h)⟩
/-- a def of the text keeps its promise, by its body -/
theorem fnG_of {x qual : PySem.Str} {params : Arguments} {body : List Stmt} {scope : Scope} {dvs : List V} {kws : List (PySem.Str × V)} (D : FunD K x qual params body scope dvs kws f fd) (S : FnScope N ps scope)
    (len : ∀ vs H Q E, sp vs H Q E → vs.length = ps.length)
    (hbody : ∀ (cdv : Value) (A : Around) (outer : List PySem.Env) (s : Shared) (H : Hp) (vs : List V) (Q : VK) (E : XK), Room k (A.deeper (envOfC qual scope s.heap.objs.size f cdv)) → A.guards = some [] → sp vs H Q E →
      ∃ t, PSs (cxOf (L2.CX P w) P w K mg base N qual scope f cdv A outer s H E) body t ∧ t { nx := fun _ H' => Q .non H', rt := Q } (start N vs) H) : FnG P w K mg base (k + 1) f fd ps sp := by
  obtain ⟨oc, od, dV, kV, doc, pm, an, cdv, ct, osl, rfl, lk, cR, _, _⟩ := D.ex
  constructor
  · exact len
  intro A outer s H args us vs Q E room gd e0 bnd rv hsp
  have here : ∀ b o, base.get? b = some o → s.heap.get? b = some o := fun b o z => (e0.bs b o z).1
  have KX := e0.mod.kin.keeps here
  have parsOk : ∀ y ∈ ps.zip us, scope.names.lookup y.1 = some .local ∨
      (scope.names.lookup y.1 = some .cell ∧ ((cellsFrom (s.heap.objs.size + 1) scope.names []).lookup y.1).isSome = true) := by
    rintro ⟨n, v⟩ hy
    exact (S.par n (List.of_mem_zip hy).1).imp id fun q => ⟨q, PySem.W.cellsFrom_some _ _ _ (.inl q)⟩
  refine codeAny_call_function room.depth (KX _ _ lk) rfl S.co S.gen rfl (PySem.W.codeRec_of KX cR) (bnd _ _ _ _ ?_)
  refine wpAny_newFunctionEnv_cells S.kind parsOk ?_
  rintro env rfl s1 x
  refine ⟨(e0.mod.nolimit.keeps here).keeps x.toInCall.keep, codeAny_func ?_⟩
  obtain ⟨t, ht, hq⟩ := hbody cdv A outer s H vs Q E (room.deeper _) gd hsp
  have I := inv_start (CX := L2.CX P w) (E := E) S room.hd e0 (len _ _ _ _ hsp) rv x
  refine wpAny_mono (ht.run [] s1 (start N vs) H _ I hq) (fun fl s' hs => ?_) (fun e s' hs => hs)
  cases fl with
  | next =>
    obtain ⟨σ', H', J, q⟩ := hs
    exact ⟨V.non, H', J.os, J.bare, J.base, J.hok, rfl, q⟩
  | ret u =>
    obtain ⟨v, σ', H', J, rv', q⟩ := hs
    exact ⟨v, H', J.os, J.bare, J.base, J.hok, rv', q⟩
  | brk => exact hs.elim fun _ z => z.elim fun _ z => z.2.elim
  | cont => exact hs.elim fun _ z => z.elim fun _ z => z.2.elim
end
section
variable {X : Cx} {k : Nat} {f : Addr} {fd : FuncData} {ps ks : List PySem.Str} {sp : Sp} {W : WX} {g : List Value → List Value → List Value} {gV : List V → List V → List V}
/-- the callee runs, its arguments in place -/
theorem runG {pins : List (Addr × Obj)} {σ : L2.St} {H : Hp} {s : Shared} {Q : VK} {us ws : List Value} {vs zs : List V} (F : FnG X.prog X.w X.K X.mg X.base k f fd ps sp) (hr : Room k X.A) (hg : X.A.guards = some []) (hb : KBinds X.K fd ps ks g gV) (tk : Takes X W)
    (I : Inv X pins σ H s) (r : Vals vs us) (rz : Vals zs ws) (h : sp (gV vs zs) H Q (fun cls d H' => W cls d σ H')) : wpAny (model X.prog X.w) X.A (call (.ref f) us (ks.zip ws)) (EP X pins σ Q) X.xe s := by
  have r2 := hb.rel r rz
  have bt := hb.to s us ws I.kIn (by rw [← r2.length]; exact F.len _ _ _ _ h)
  refine wpAny_call (codeAny_mono (F.run X.A X.stack s H ⟨us, ks.zip ws⟩ (g us ws) (gV vs zs) Q (fun cls d H' => W cls d σ H') hr hg I.env0 bt r2 h) ?_)
  intro r s' hq
  cases r with
  | error e => exact tk e s' (XE.of_call I (fun _ _ _ z => z) hq)
  | ok fl =>
    cases fl with
    | ret u => exact I.after hq
    | next => exact False.elim hq
    | brk => exact False.elim hq
    | cont => exact False.elim hq
/-- what a call of a def asks: positional values, the keywords' values -/
def tCallG (sp : Sp) (W : WX) (gV : List V → List V → List V) (t tk : TA) : TE := fun σ H Q => t σ H fun vs H1 => tk σ H1 fun zs H2 => sp (gV vs zs) H2 Q (fun cls d H' => W cls d σ H')
theorem pe_callG {x : PySem.Str} {p pos : Pos} {e : Expr} {es : List Expr} {kws : List Keyword} {t tk : TA} (F : FnG X.prog X.w X.K X.mg X.base k f fd ps sp) (hr : Room k X.A) (hg : X.A.guards = some []) (hgl : Gl X x) (hm : X.mg x = some (.ref f)) (hk : PySem.W.keepIn X.K (.ref f) = true)
    (hb : KBinds X.K fd ps ks g gV) (tks : Takes X W) (ha : PA X (e :: es) t) (hkw : PK X kws tk) (hall : (backToKw pos (keywordEach kws X.env)).all (·.1.isSome) = true := by rfl) (hks : (backToKw pos (keywordEach kws X.env)).filterMap (·.1) = ks := by rfl)
    (hdb : (x == ("__debug__" : PySem.Str)) = false := by decide) (he : starEach (e :: es) X.env = (false, eval e X.env) :: starEach es X.env := by rfl)
    (hpl : ((backTo pos (starEach (e :: es) X.env)).any (·.1) || (backToKw pos (keywordEach kws X.env)).any (·.1.isNone)) = false := by rfl) :
    PE X (.Call (.Name x p) (e :: es) kws pos) (tCallG sp W gV t tk) := by
  constructor
  intro pins s σ H Q I h
  refine wpAny_Call_Name_kw (ld_glob I hgl hm ?_ hdb)
  refine PySem.W.callWith_KW (h₀ := X.base) I.ok.mod.kin hk hall (thn (ha.run pos pins s σ H _ I h) ?_) hpl he
  rintro us s1 ⟨vs, H1, I1, r, q⟩
  refine thn (hkw.run pos pins s1 σ H1 _ I1 q) ?_
  rintro ws s2 ⟨zs, H2, I2, rz, q2⟩
  refine ⟨I2.kIn, ?_⟩
  rw [hks]
  exact runG F hr hg hb tks I2 r rz q2
/-- no keywords, no defaults -/
theorem kb_all {K : PySem.W.Frag} {fd : FuncData} {ps : List PySem.Str} (b : Binds K fd ps []) : KBinds K fd ps [] (fun us _ => us) (fun vs _ => vs) :=
  ⟨fun s us ws X hl => by
    have := b s us X (by rw [List.append_nil]; exact hl)
    rw [List.append_nil] at this
    exact this, fun r _ => r⟩
end
/-! ### the law's own call -/
theorem law_callG {P : Program} {w : World} {K : PySem.W.Frag} {mg mb : PySem.Str → Option Value} {k : Nat} {fa a : Addr} {fd : FuncData} {x : PySem.Str} {sp : Sp} {s₁ : Shared} {vs : List Value} {ns : List Int}
    (KX : K.In s₁.heap) (hns : s₁.heap.Ns mainGlobals mg) (hb : s₁.heap.Ns builtinsNs mb) (hbb : ∀ x : PySem.Str, x ≠ "__name__" → mb x = bootBuiltins x) (hlim : s₁.heap.NoLimit) (hg : s₁.gens = #[])
    (ha : s₁.heap.get? a = some { cls := .type "list", data := .seq vs.toArray }) (hi : IntsAre vs ns) (hl : ns.length ≤ sizeLine) (hr : Room k callerA)
    (F : ∀ base : Heap, K.In base → base.Ns mainGlobals mg → FnG P w K mg base k fa fd [x] sp) (hbind : ∀ (s : Shared) (u : Value), BindsTo s fd ⟨[u], []⟩ [(x, u)])
    (hsp : ∀ H : Hp, (∀ b, H b = none ∨ b = a) → Lr K H a (ns.map V.int) → sp [.ref a] H (fun v _ => v = .bl true) fun _ _ _ => False) :
    codeAny (model P w) callerA (.call (.ref fa) ⟨[.ref a], []⟩) (fun r s' => r = .ok (.ret (.bool true)) ∧ OldK s₁.heap s'.heap ∧ s'.os = s₁.os ∧ AllBare s'.gens) s₁ := by
  obtain ⟨O, hO⟩ : ∃ O : Obj, O = { cls := .type "list", data := .seq vs.toArray } := ⟨_, rfl⟩
  rw [← hO] at ha
  obtain ⟨H, Ha, Hn, nk, hsq⟩ : ∃ H : Hp, (H a = none ∨ H a = some (.frz O (.lst (ns.map V.int)))) ∧ (∀ b, b ≠ a → H b = none) ∧ (H a ≠ none → K.lookup a = none) ∧ Lr K H a (ns.map V.int) := by
    cases hk : K.lookup a with
    | none => exact ⟨upd (fun _ => none) a (.frz O (.lst (ns.map V.int))), .inr upd_same, fun b z => by rw [upd_ne z], fun _ => rfl, .inl (.inr ⟨O, upd_same⟩)⟩
    | some o =>
      have z := KX a o hk
      rw [ha] at z
      cases z
      exact ⟨fun _ => none, .inl rfl, fun b _ => rfl, fun z => absurd rfl z, .inr ⟨vs, _, by rw [hk, hO], by rw [hi.length]; exact hl, vals_ints hi⟩⟩
  have ok : HOk P w H s₁.heap := by
    intro b u z
    by_cases q : b = a
    · rcases Ha with y | y
      · rw [q, y] at z
        cases z
      · rw [q, y] at z
        cases z
        rw [q]
        exact ⟨ha, by rw [List.length_map]; exact hl, vs, _, vals_ints hi, by rw [ha, hO]⟩
    · rw [Hn b q] at z
      cases z
  have stay : ∀ {b : Addr} {o : Obj}, s₁.heap.get? b = some o → b ≠ a → (hidT s₁.heap H).get? b = some o := fun z q => hidT_get z (Hn _ q)
  have hon : ∀ b, H b = none ∨ b = a := fun b => (Classical.em (b = a)).elim .inr fun z => .inl (Hn b z)
  have noD : ∀ {b : Addr} {o : Obj} {es : Array DictEntry} {ep : Nat}, s₁.heap.get? b = some o → o.data = .dict es ep → b ≠ a := by
    rintro b o es ep z d rfl
    rw [ha] at z
    cases z
    rw [hO] at d
    cases d
  have nsS : ∀ {b : Addr} {m : PySem.Str → Option Value}, s₁.heap.Ns b m → (hidT s₁.heap H).Ns b m := by
    rintro b m ⟨o, es, ep, z, d, r⟩
    exact ⟨o, es, ep, stay z (noD z d), d, r⟩
  have KB : K.In (hidT s₁.heap H) := fun b o z => hidT_get (KX b o z) ((hon b).elim id fun y => by
    cases q : H b with
    | none => rfl
    | some u =>
      subst y
      rw [nk (by rw [q]; simp)] at z
      cases z)
  have M : Mod K mg (hidT s₁.heap H) := by
    obtain ⟨mc, l1, l2⟩ := hlim
    exact ⟨KB, nsS hns, ⟨mb, nsS hb, hbb⟩, ⟨mc, nsS l1, l2⟩⟩
  have e0 : Env0 P w K mg (hidT s₁.heap H) callerA [] s₁ H := by
    refine ⟨rfl, M, fun b o z => of_hidT z, Nat.le_of_eq (hidT_size _ _), trivial, fun b z => ?_, ok, .of_eq hg⟩
    cases z
  refine codeAny_mono ((F _ KB (nsS hns)).run callerA [] s₁ H ⟨[.ref a], []⟩ [.ref a] [.ref a] _ _ hr rfl e0 (hbind s₁ (.ref a)) (.cons rfl .nil) (hsp H hon hsq)) ?_
  intro r s' h
  cases r with
  | error e =>
    obtain ⟨_, _, _, _, _, _, _, _, _, _, _, _, z⟩ := h
    exact z.elim
  | ok fl =>
    cases fl with
    | next => exact False.elim h
    | brk => exact False.elim h
    | cont => exact False.elim h
    | ret u =>
      obtain ⟨v, H', os, bare, un, ok', rv, q⟩ := h
      cases q
      cases rv
      refine ⟨rfl, OldK.of_keep ?_, os, bare⟩
      intro b o z
      by_cases q : b = a
      · subst q
        rcases Ha with y | y
        · exact un.keep b o z y (by intro y; cases y) (by intro y; cases y)
        · have y := un.frzs b O _ y
          obtain ⟨y1, _⟩ := ok' b _ y
          rw [ha] at z
          cases z
          exact y1
      · exact un.keep b o z (Hn b q) (by intro y; cases y) (by intro y; cases y)
end FE

namespace FE
open PySem PySem.Spec PyProof.Rows L2

/-! ### more operators -/
def rRepL (K : PySem.W.Frag) : R2 := fun x y H Q => ∃ l k xs, x = .ref l ∧ y = .int k ∧ Lr K H l xs ∧ -(2 ^ 63) ≤ k ∧ k < 2 ^ 63 ∧ xs.length * k.toNat ≤ sizeLine ∧ ∀ p, H p = none → Q (.ref p) (upd H p (.lst (List.replicate k.toNat xs).flatten))
theorem op_repL {X : Cx} : OpR X (binaryOp .Mult) (rRepL X.K) := by
  rintro pins s σ H x y v u Q I rx ry ⟨l, k, xs, rfl, rfl, hl, lo, up, big, q⟩
  obtain rfl : v = .ref l := rx
  obtain ⟨tk, rfl⟩ := ry
  obtain ⟨_, its, n, r, len, at_⟩ := Inv.lr I hl
  have small : its.toArray.size * k.toNat ≤ sizeLine := by
    rw [List.size_toArray]
    rw [len] at big
    exact big
  have cap : ¬ its.toArray.size * k.toNat > (2 ^ 63 - 1) / 8 := fun z => absurd (Nat.lt_of_lt_of_le z small) (by decide)
  have fit : ¬ (!Builtin.List.listFitsIndex k) = true := fun z => by
    rw [fitsIndex_both lo up] at z
    cases z
  have long : ¬ Builtin.List.listTooLong (its.toArray.size * k.toNat) = true := fun z => by
    rw [notLongL small] at z
    cases z
  have all : ∀ m : Nat, (List.replicate m its.toArray).foldl (fun x1 x2 => x1 ++ x2) #[] = (List.replicate m its).flatten.toArray := fun m => by
    have z := foldl_rep its m []
    rwa [List.nil_append] at z
  have new : List.foldl (fun x1 x2 => x1 ++ x2) #[] (List.replicate (if its.toArray.isEmpty = true then 0 else k.toNat) its.toArray) = (List.replicate k.toNat its).flatten.toArray := by
    cases its with
    | nil => rw [all]; simp
    | cons a r' => rw [if_neg (by simp), all]
  have step2 : (List.foldl (fun x1 x2 => x1 ++ x2) #[] (List.replicate (if its.toArray.isEmpty = true then 0 else k.toNat) its.toArray)) = (List.replicate k.toNat its).flatten.toArray := new
  have isL : s.TypeIs (.ref l) "list" := ⟨_, at_, rfl⟩
  apply wpAny_binaryOp_repeat_ref (T := "list") (U := "int") (by decide) isL (fun s' => typeIs_int s' k tk) noFill_list_mul F.fills_int_mul F.slot_int_rmul repeat_list F.slot_int_index.lookup
  apply call_meets F.slot_int_rmul (typeIs_int s k tk) F.entry_int_rmul (F.args_int_rmul_2 _ _) (int___rmul___int_list k tk l its.toArray n)
  refine ⟨at_, rfl, isL, ?_⟩
  apply call_meets F.slot_list_mul isL F.entry_list_mul (F.args_list_mul_2 _ _) (AutoListH.list___mul___list_int_3 l its.toArray n k tk fit cap long)
  refine ⟨at_, ?_⟩
  rw [step2]
  refine ⟨.ref _, _, I.lnew (t' := s.toks) (r.rep k.toNat) ?_, rfl, q _ I.fresh⟩
  rw [PyProof.Rows.lm_len_rep_flat, Nat.mul_comm]
  exact big
def rMulU (K : PySem.W.Frag) : R2 := fun x y H Q => rI CMulW (fun i j => .int (i * j)) x y H Q ∨ rMulS x y H Q ∨ rRepL K x y H Q
theorem op_mulU {X : Cx} : OpR X (binaryOp .Mult) (rMulU X.K) := op_mulW.or (op_mulS.or op_repL)
theorem RepL.flat {G : Gd} {F : Hp} {vs : List V} {ds : List D} (r : RepL G F vs ds) : ∀ n : Nat, RepL G F (List.replicate n vs).flatten (List.replicate n ds).flatten
  | 0 => .nil
  | n + 1 => by
    rw [List.replicate_succ, List.replicate_succ, List.flatten_cons, List.flatten_cons]
    exact r.append (RepL.flat r n)
/-- (a list is repeated where it is a new one or one that nobody locked) -/
def mulF' : D → D → Option R
  | .int i, .int j => if i.natAbs.log2 + j.natAbs.log2 < 1000000 then some (.sh (.int (i * j))) else none
  | .str x, .int n => if 0 ≤ n ∧ n ≤ 1000 ∧ x.length ≤ 1000 then some (.sh (.str (Txt.mul x n))) else none
  | .lst ds, .int n => if 0 ≤ n ∧ n ≤ 1000 ∧ ds.length ≤ 1000 then some (.ow (List.replicate n.toNat ds).flatten) else none
  | _, _ => none
theorem s_mul {G : Gd} : SOp G (rMulU G.K) mulF' := by
  intro Z F σ H env x y d e z Q hG g rx ry h q
  unfold mulF' at h
  split at h
  · split at h
    · rename_i c
      cases rx; cases ry; cases h
      exact .inl ⟨_, _, rfl, rfl, c, q _ H F g (Ex.refl F) (.int _)⟩
    · cases h
  · split at h
    · rename_i c
      cases rx; cases ry; cases h
      exact .inr (.inl ⟨_, _, rfl, rfl, c.1, c.2.1, c.2.2, q _ H F g (Ex.refl F) (.str _)⟩)
    · cases h
  · split at h
    · rename_i ds n c
      cases h
      cases ry
      cases rx with
      | lst h1 r1 =>
        subst hG
        have hz : ds.length * n.toNat ≤ 1000000 := Nat.le_trans (Nat.mul_le_mul c.2.2 (show n.toNat ≤ 1000 by omega)) (by decide)
        refine .inr (.inr ⟨_, _, _, rfl, rfl, g.fh.lr h1, by omega, by omega, Nat.le_trans (by rw [r1.length]; exact hz) big_line, fun p hp => ?_⟩)
        exact q _ _ F (g.lay hp) (Ex.refl F) (g.mine hp (r1.flat _))
    · cases h
  · cases h
def fdivF : D → D → Option R
  | .int i, .int j => if 0 < j ∧ j.natAbs.log2 < 9000 then some (.sh (.int (i / j))) else none
  | _, _ => none
theorem s_fdiv {G : Gd} : SOp G (rI CDivW fun i j => .int (i / j)) fdivF := by
  intro Z F σ H env x y d e z Q hG g rx ry h q
  unfold fdivF at h
  split at h
  · split at h
    · rename_i c
      cases rx; cases ry; cases h
      exact ⟨_, _, rfl, rfl, c, q _ H F g (Ex.refl F) (.int _)⟩
    · cases h
  · cases h
def modF : D → D → Option R
  | .int i, .int j => if 0 < j then some (.sh (.int (i % j))) else none
  | _, _ => none
theorem s_mod {G : Gd} : SOp G (rI (fun _ j => 0 < j) fun i j => .int (i % j)) modF := by
  intro Z F σ H env x y d e z Q hG g rx ry h q
  unfold modF at h
  split at h
  · split at h
    · rename_i c
      cases rx; cases ry; cases h
      exact ⟨_, _, rfl, rfl, c, q _ H F g (Ex.refl F) (.int _)⟩
    · cases h
  · cases h
def powF : D → D → Option R
  | .int i, .int j => if 0 ≤ j ∧ j ≤ 1000000 ∧ i.natAbs < 2 ^ 64 then some (.sh (.int (i ^ j.toNat))) else none
  | _, _ => none
theorem s_pow {G : Gd} : SOp G (rI CPow fun i j => .int (i ^ j.toNat)) powF := by
  intro Z F σ H env x y d e z Q hG g rx ry h q
  unfold powF at h
  split at h
  · split at h
    · rename_i c
      cases rx; cases ry; cases h
      exact ⟨_, _, rfl, rfl, c, q _ H F g (Ex.refl F) (.int _)⟩
    · cases h
  · cases h
def shlF : D → D → Option R
  | .int i, .int j => if 0 ≤ j ∧ j ≤ 1000000 ∧ i.natAbs < 2 ^ 64 then some (.sh (.int (i * 2 ^ j.toNat))) else none
  | _, _ => none
theorem s_shl {G : Gd} : SOp G (rI CPow fun i j => .int (i * 2 ^ j.toNat)) shlF := by
  intro Z F σ H env x y d e z Q hG g rx ry h q
  unfold shlF at h
  split at h
  · split at h
    · rename_i c
      cases rx; cases ry; cases h
      exact ⟨_, _, rfl, rfl, c, q _ H F g (Ex.refl F) (.int _)⟩
    · cases h
  · cases h
def shrF : D → D → Option R
  | .int i, .int j => if 0 ≤ j then some (.sh (.int (i / 2 ^ j.toNat))) else none
  | _, _ => none
theorem s_shr {G : Gd} : SOp G (rI (fun _ j => 0 ≤ j) fun i j => .int (i / 2 ^ j.toNat)) shrF := by
  intro Z F σ H env x y d e z Q hG g rx ry h q
  unfold shrF at h
  split at h
  · split at h
    · rename_i c
      cases rx; cases ry; cases h
      exact ⟨_, _, rfl, rfl, c, q _ H F g (Ex.refl F) (.int _)⟩
    · cases h
  · cases h
def negF : D → Option R
  | .int i => some (.sh (.int (-i)))
  | _ => none
theorem s_neg {G : Gd} : SUn G (rU fun i => .int (-i)) negF := by
  intro Z F σ H env x d z Q hG g rx h q
  unfold negF at h
  split at h
  · cases rx; cases h
    exact ⟨_, rfl, q _ H F g (Ex.refl F) (.int _)⟩
  · cases h
/-! ### order -/
def strLt (x y : PySem.Str) : Bool := decide (x.cps.toList < y.cps.toList)
def rOrd (fi : Int → Int → Bool) (fs : PySem.Str → PySem.Str → Bool) : R2 := fun x y H Q => rI0 (fun i j => .bl (fi i j)) x y H Q ∨ (fun x y H Q => ∃ i j, x = .str i ∧ y = .str j ∧ Q (.bl (fs i j)) H : R2) x y H Q
def ordF (fi : Int → Int → Bool) (fs : PySem.Str → PySem.Str → Bool) : D → D → Option R
  | .int i, .int j => some (.sh (.bl (fi i j)))
  | .str i, .str j => some (.sh (.bl (fs i j)))
  | _, _ => none
theorem s_ord {G : Gd} {fi : Int → Int → Bool} {fs : PySem.Str → PySem.Str → Bool} : SOp G (rOrd fi fs) (ordF fi fs) := by
  intro Z F σ H env x y d e z Q hG g rx ry h q
  unfold ordF at h
  split at h
  · cases rx; cases ry; cases h
    exact .inl ⟨_, _, rfl, rfl, q _ H F g (Ex.refl F) (.bl _)⟩
  · cases rx; cases ry; cases h
    exact .inr ⟨_, _, rfl, rfl, q _ H F g (Ex.refl F) (.bl _)⟩
  · cases h
abbrev ltF := ordF (fun i j => decide (i < j)) strLt
abbrev leF := ordF (fun i j => decide (i ≤ j)) (fun x y => !strLt y x)
abbrev gtF := ordF (fun i j => decide (j < i)) (fun x y => strLt y x)
abbrev geF := ordF (fun i j => decide (j ≤ i)) (fun x y => !strLt x y)
section
variable {X : Cx}
theorem op_ltU : OpR X (compareOp .Lt) (rOrd (fun i j => decide (i < j)) strLt) := op_lt.or op_lt_str
theorem op_leU : OpR X (compareOp .LtE) (rOrd (fun i j => decide (i ≤ j)) (fun x y => !strLt y x)) := op_le.or (by
  intro pins s σ H x y v u Q I rx ry h
  obtain ⟨i, j, rfl, rfl, q⟩ := h
  obtain ⟨t, rfl⟩ := rx
  obtain ⟨t', rfl⟩ := ry
  exact PySem.P.le_str (fin_bl I q rfl))
theorem op_gtU : OpR X (compareOp .Gt) (rOrd (fun i j => decide (j < i)) (fun x y => strLt y x)) := op_gt.or (by
  intro pins s σ H x y v u Q I rx ry h
  obtain ⟨i, j, rfl, rfl, q⟩ := h
  obtain ⟨t, rfl⟩ := rx
  obtain ⟨t', rfl⟩ := ry
  exact PySem.P.gt_str (fin_bl I q rfl))
theorem op_geU : OpR X (compareOp .GtE) (rOrd (fun i j => decide (j ≤ i)) (fun x y => !strLt x y)) := op_ge.or (by
  intro pins s σ H x y v u Q I rx ry h
  obtain ⟨i, j, rfl, rfl, q⟩ := h
  obtain ⟨t, rfl⟩ := rx
  obtain ⟨t', rfl⟩ := ry
  exact PySem.P.ge_str (fin_bl I q rfl))
end
/-! ### is None -/
def D.isNon : D → Option Bool
  | .non => some true
  | .dev _ _ => none
  | _ => some false
def isNF : D → D → Option R
  | d, .non => bR d.isNon
  | _, _ => none
def notNF : D → D → Option R
  | d, .non => bR (d.isNon.map (! ·))
  | _, _ => none
theorem Rep.isNon {G : Gd} {F : Hp} {v : V} {d : D} {b : Bool} (h : Rep G F v d) (e : d.isNon = some b) : decide (v = .non) = b := by
  cases h <;> first | (cases e; rfl) | cases e
theorem s_isN {G : Gd} : SOp G (fun x y H Q => y = .non ∧ Q (.bl (decide (x = .non))) H) isNF := by
  intro Z F σ H env x y d e z Q hG g rx ry h q
  unfold isNF at h
  split at h
  · unfold bR at h
    cases hb : d.isNon with
    | none => rw [hb] at h; cases h
    | some b =>
      rw [hb] at h; cases h; cases ry
      exact ⟨rfl, by rw [rx.isNon hb]; exact q _ H F g (Ex.refl F) (.bl b)⟩
  · cases h
theorem s_notN {G : Gd} : SOp G (fun x y H Q => y = .non ∧ Q (.bl (!decide (x = .non))) H) notNF := by
  intro Z F σ H env x y d e z Q hG g rx ry h q
  unfold notNF at h
  split at h
  · unfold bR at h
    cases hb : d.isNon with
    | none => rw [hb] at h; cases h
    | some b =>
      rw [hb] at h; cases h; cases ry
      exact ⟨rfl, by rw [rx.isNon hb]; exact q _ H F g (Ex.refl F) (.bl (!b))⟩
  · cases h
/-! ### in -/
def inS (x y : PySem.Str) : Bool := !(Builtin.Str.occurrences y x 0 y.length 1).isEmpty
def inFl (d : D) (ds : List D) : Option Bool :=
  if flatD d && ds.all flatD then some (inV d.fv (ds.map D.fv)) else none
def inDp (d : D) (ds : List D) : Option Bool :=
  if okD d && okD (.lst ds) then some (ds.any fun z => PyData.eqv z.pyd d.pyd) else none
def inD (d e : D) : Option Bool := match e with
  | .str y => match d with
    | .str x => some (inS x y)
    | _ => none
  | .lst ds => (inFl d ds).or (inDp d ds)
  | .tup ds => inFl d ds
  | _ => none
def inF : D → D → Option R := fun d e => bR (inD d e)
def ninF : D → D → Option R := fun d e => bR ((inD d e).map (! ·))
def rInU (K : PySem.W.Frag) : R2 := fun x y H Q => (fun x y H Q => ∃ i j, x = .str i ∧ y = .str j ∧ Q (.bl (!(Builtin.Str.occurrences j i 0 j.length 1).isEmpty)) H : R2) x y H Q ∨ rIn K false x y H Q ∨ rInD K x y H Q
def rNinU (K : PySem.W.Frag) : R2 := fun x y H Q => (fun x y H Q => ∃ i j, x = .str i ∧ y = .str j ∧ Q (.bl (!(!(Builtin.Str.occurrences j i 0 j.length 1).isEmpty))) H : R2) x y H Q ∨ rIn K true x y H Q ∨ rNotInD K x y H Q
theorem op_inU {X : Cx} (hu : X.A.units + 65 < cLine) : OpR X (compareOp .In) (rInU X.K) := op_in_str.or (op_in_seq.or (op_inD hu))
theorem op_ninU {X : Cx} (hu : X.A.units + 65 < cLine) : OpR X (compareOp .NotIn) (rNinU X.K) := op_notin_str.or (op_notIn_seq.or (op_notInD hu))
theorem any_pyd (d : PyData) : ∀ ds : List D, (pydL ds).any (fun z => PyData.eqv z d) = ds.any fun z => PyData.eqv z.pyd d
  | [] => rfl
  | e :: ds => by rw [pydL, List.any_cons, List.any_cons, any_pyd d ds]
theorem in_core {G : Gd} {Z : Zd} {F : Hp} {σ : L2.St} {H : Hp} {env : Env} {x y : V} {d e : D} {b : Bool} (hG : Z.G = G) (g : Good Z F σ H env) (rx : Rep Z.G F x d) (ry : Rep Z.G F y e) (h : inD d e = some b) :
    (∃ i j, x = .str i ∧ y = .str j ∧ b = !(Builtin.Str.occurrences j i 0 j.length 1).isEmpty) ∨
    (∃ p xs, y = .ref p ∧ (SqL G.K H p xs ∨ SqT G.K H p xs) ∧ flatV x = true ∧ xs.all flatV = true ∧ b = inV x xs) ∨
    (∃ d ds, Dp G.K H x d ∧ Dp G.K H y (.list ds) ∧ SeqAt.shaped d = true ∧ SeqAt.shaped (.list ds) = true ∧ b = ds.any fun z => PyData.eqv z d) := by
  subst hG
  have fl : ∀ {ds : List D} {vs : List V} {b : Bool}, inFl d ds = some b → RepL Z.G F vs ds → flatV x = true ∧ vs.all flatV = true ∧ b = inV x vs := by
    intro ds vs b h r
    unfold inFl at h
    split at h
    · rename_i c
      rw [Bool.and_eq_true] at c
      cases h
      obtain ⟨e1, f1⟩ := rx.fv c.1
      obtain ⟨e2, f2⟩ := r.fv c.2
      exact ⟨f1, f2, by rw [e1, e2]⟩
    · cases h
  unfold inD at h
  cases ry with
  | str y =>
    cases rx <;> first | (cases h; exact .inl ⟨_, _, rfl, rfl, rfl⟩) | cases h
  | lst h1 r1 =>
    rename_i ds
    have ry := Rep.lst h1 r1
    dsimp only at h
    cases hf : inFl d ds with
    | some b' =>
      rw [hf] at h
      cases h
      obtain ⟨f1, f2, f3⟩ := fl hf r1
      exact .inr (.inl ⟨_, _, rfl, .inl (g.fh.lr h1).sq, f1, f2, f3⟩)
    | none =>
      rw [hf, Option.none_or] at h
      unfold inDp at h
      split at h
      · rename_i c
        rw [Bool.and_eq_true] at c
        cases h
        obtain ⟨p1, s1⟩ := okD_dp (rx.mono g.fh) c.1
        obtain ⟨p2, s2⟩ := okD_dp (ry.mono g.fh) c.2
        exact .inr (.inr ⟨_, _, p1, p2, s1, s2, (any_pyd _ _).symm⟩)
      · cases h
  | tup h1 r1 =>
    dsimp only at h
    obtain ⟨f1, f2, f3⟩ := fl h r1
    exact .inr (.inl ⟨_, _, rfl, .inr (g.fh.t h1.t), f1, f2, f3⟩)
  | _ => cases h
theorem s_in {G : Gd} : SOp G (rInU G.K) inF := by
  intro Z F σ H env x y d e z Q hG g rx ry h q
  obtain ⟨b, hb, rfl⟩ : ∃ b, inD d e = some b ∧ z = .sh (.bl b) := by
    unfold inF bR at h
    cases q : inD d e with
    | none => rw [q] at h; cases h
    | some b => rw [q] at h; exact ⟨b, rfl, (Option.some.inj h).symm⟩
  have fin : Q (.bl b) H := q _ H F g (Ex.refl F) (.bl b)
  rcases in_core hG g rx ry hb with ⟨i, j, rfl, rfl, e⟩ | ⟨p, xs, rfl, h1, h2, h3, e⟩ | ⟨d', ds, h1, h2, h3, h4, e⟩
  · exact .inl ⟨i, j, rfl, rfl, by rw [← e]; exact fin⟩
  · exact .inr (.inl ⟨p, xs, rfl, h1, h2, h3, by rw [if_neg Bool.false_ne_true, ← e]; exact fin⟩)
  · exact .inr (.inr ⟨d', ds, h1, h2, h3, h4, by rw [← e]; exact fin⟩)
theorem s_nin {G : Gd} : SOp G (rNinU G.K) ninF := by
  intro Z F σ H env x y d e z Q hG g rx ry h q
  obtain ⟨b, hb, rfl⟩ : ∃ b, inD d e = some b ∧ z = .sh (.bl (!b)) := by
    unfold ninF bR at h
    cases q : inD d e with
    | none => rw [q] at h; cases h
    | some b => rw [q] at h; exact ⟨b, rfl, (Option.some.inj h).symm⟩
  have fin : Q (.bl (!b)) H := q _ H F g (Ex.refl F) (.bl (!b))
  rcases in_core hG g rx ry hb with ⟨i, j, rfl, rfl, e⟩ | ⟨p, xs, rfl, h1, h2, h3, e⟩ | ⟨d', ds, h1, h2, h3, h4, e⟩
  · exact .inl ⟨i, j, rfl, rfl, by rw [← e]; exact fin⟩
  · exact .inr (.inl ⟨p, xs, rfl, h1, h2, h3, by rw [if_pos rfl, ← e]; exact fin⟩)
  · exact .inr (.inr ⟨d', ds, h1, h2, h3, h4, by rw [← e]; exact fin⟩)
/-! ### x[i] -/
def ixF : D → D → Option R
  | .lst ds, .int i => (atI ds i).map .sh
  | .tup ds, .int i => (atI ds i).map .sh
  | .str x, .int i => if x.length ≤ 1000000 then (atI x.cps.toList i).map fun c => .sh (.str ⟨#[c]⟩) else none
  | _, _ => none
theorem atI_some {α : Type} {xs : List α} {i : Int} {v : α} (h : atI xs i = some v) : ∃ j, ixN xs.length i = some j ∧ xs[j]? = some v := by
  unfold atI at h
  cases e : ixN xs.length i with
  | none => rw [e] at h; cases h
  | some j => rw [e] at h; exact ⟨j, rfl, h⟩
theorem RepL.atI {G : Gd} {F : Hp} {vs : List V} {ds : List D} {i : Int} {d : D} (r : RepL G F vs ds) (h : L2.atI ds i = some d) : ∃ v, L2.atI vs i = some v ∧ Rep G F v d := by
  obtain ⟨j, h1, h2⟩ := atI_some h
  obtain ⟨v, h3, h4⟩ := r.get h2
  refine ⟨v, ?_, h4⟩
  unfold L2.atI
  rw [r.length, h1]
  exact h3
theorem s_ix {G : Gd} : SOp G (rIx G.K) ixF := by
  intro Z F σ H env x y d e z Q hG g rx ry h q
  subst hG
  unfold ixF at h
  split at h
  · rename_i ds i
    cases ha : L2.atI ds i with
    | none => rw [ha] at h; cases h
    | some d =>
      rw [ha] at h; cases h; cases ry
      cases rx with
      | lst h1 r1 =>
        obtain ⟨v, h3, h4⟩ := r1.atI ha
        exact .inl ⟨_, _, _, _, rfl, rfl, (g.fh.lr h1).sq, h3, q _ H F g (Ex.refl F) h4⟩
  · rename_i ds i
    cases ha : L2.atI ds i with
    | none => rw [ha] at h; cases h
    | some d =>
      rw [ha] at h; cases h; cases ry
      cases rx with
      | tup h1 r1 =>
        obtain ⟨v, h3, h4⟩ := r1.atI ha
        exact .inr (.inl ⟨_, _, _, _, rfl, rfl, g.fh.t h1.t, h3, q _ H F g (Ex.refl F) h4⟩)
  · rename_i x i
    split at h
    · rename_i hl
      cases ha : L2.atI x.cps.toList i with
      | none => rw [ha] at h; cases h
      | some c =>
        rw [ha] at h; cases h; cases ry; cases rx
        exact .inr (.inr ⟨_, _, _, rfl, rfl, Nat.le_trans hl big_line, ha, q _ H F g (Ex.refl F) (.str _)⟩)
    · cases h
  · cases h
end FE

namespace FE
open PySem PySem.Spec PyProof.Rows L2

/-! ### lists of one kind -/
def intsD : List D → Option (List Int)
  | [] => some []
  | .int i :: ds => (intsD ds).map (i :: ·)
  | _ => none
def bolsD : List D → Option (List Bool)
  | [] => some []
  | .bl i :: ds => (bolsD ds).map (i :: ·)
  | _ => none
def strsD : List D → Option (List PySem.Str)
  | [] => some []
  | .str i :: ds => (strsD ds).map (i :: ·)
  | _ => none
section
variable {G : Gd} {F : Hp}
theorem RepL.ints : ∀ {vs : List V} {ds : List D} {ns : List Int}, RepL G F vs ds → intsD ds = some ns → vs = ns.map V.int
  | _, _, _, .nil, h => by cases h; rfl
  | _, d :: ds, ns, .cons h r, e => by
    cases d <;> try cases e
    rename_i i
    cases h
    unfold intsD at e
    cases q : intsD ds with
    | none => rw [q] at e; cases e
    | some ms =>
      rw [q] at e
      cases e
      rw [List.map_cons, ← RepL.ints r q]
theorem RepL.bols : ∀ {vs : List V} {ds : List D} {ns : List Bool}, RepL G F vs ds → bolsD ds = some ns → vs = ns.map V.bl
  | _, _, _, .nil, h => by cases h; rfl
  | _, d :: ds, ns, .cons h r, e => by
    cases d <;> try cases e
    rename_i i
    cases h
    unfold bolsD at e
    cases q : bolsD ds with
    | none => rw [q] at e; cases e
    | some ms =>
      rw [q] at e
      cases e
      rw [List.map_cons, ← RepL.bols r q]
theorem RepL.strs : ∀ {vs : List V} {ds : List D} {ns : List PySem.Str}, RepL G F vs ds → strsD ds = some ns → vs = ns.map V.str
  | _, _, _, .nil, h => by cases h; rfl
  | _, d :: ds, ns, .cons h r, e => by
    cases d <;> try cases e
    rename_i i
    cases h
    unfold strsD at e
    cases q : strsD ds with
    | none => rw [q] at e; cases e
    | some ms =>
      rw [q] at e
      cases e
      rw [List.map_cons, ← RepL.strs r q]
theorem RepL.one {vs : List V} {d : D} (r : RepL G F vs [d]) : ∃ v, vs = [v] ∧ Rep G F v d := by
  cases r with
  | cons h t =>
    cases t
    exact ⟨_, rfl, h⟩
theorem RepL.two {vs : List V} {d e : D} (r : RepL G F vs [d, e]) : ∃ v w, vs = [v, w] ∧ Rep G F v d ∧ Rep G F w e := by
  cases r with
  | cons h t =>
    obtain ⟨w, rfl, h2⟩ := RepL.one t
    exact ⟨_, w, rfl, h, h2⟩
end

/-! ### built-in functions -/
/-- len -/
def lenF : List D → Option R
  | [.str x] => if x.length ≤ 1000000 then some (.sh (.int x.length)) else none
  | [.lst ds] => some (.sh (.int ds.length))
  | [.tup ds] => some (.sh (.int ds.length))
  | _ => none
theorem s_len {G : Gd} : SCall G (fun xs H Q => ∃ x n, xs = [x] ∧ LenV G.K x H n ∧ Q (.int n) H) lenF := by
  intro Z F σ H env xs ds z Q hG g r h q
  subst hG
  unfold lenF at h
  split at h
  · split at h
    · rename_i hl
      obtain ⟨v, rfl, rv⟩ := r.one
      cases rv; cases h
      exact ⟨_, _, rfl, ⟨Nat.le_trans hl big_line, rfl⟩, q _ H F g (Ex.refl F) (.int _)⟩
    · cases h
  · obtain ⟨v, rfl, rv⟩ := r.one
    cases rv with
    | lst h1 r1 =>
      cases h
      exact ⟨_, _, rfl, .inl ⟨_, (g.fh.lr h1).sq, rfl⟩, q _ H F g (Ex.refl F) (by rw [r1.length]; exact .int _)⟩
  · obtain ⟨v, rfl, rv⟩ := r.one
    cases rv with
    | tup h1 r1 =>
      cases h
      exact ⟨_, _, rfl, .inr ⟨_, g.fh.t h1.t, rfl⟩, q _ H F g (Ex.refl F) (by rw [r1.length]; exact .int _)⟩
  · cases h
def intF (f : Int → Int) : List D → Option R
  | [.int i] => some (.sh (.int (f i)))
  | _ => none
theorem s_abs {G : Gd} : SCall G (fun xs H Q => ∃ i, xs = [.int i] ∧ Q (.int (if i < 0 then -i else i)) H) (intF fun i => if i < 0 then -i else i) := by
  intro Z F σ H env xs ds z Q hG g r h q
  unfold intF at h
  split at h
  · obtain ⟨v, rfl, rv⟩ := r.one
    cases rv; cases h
    exact ⟨_, rfl, q _ H F g (Ex.refl F) (.int _)⟩
  · cases h
def mx (i j : Int) : Int := if j > i then j else i
def mn (i j : Int) : Int := if j < i then j else i
def rMax' (K : PySem.W.Frag) : List V → Hp → VK → Prop := fun xs H Q => (fun xs H Q => ∃ i j, xs = [.int i, .int j] ∧ Q (.int (if j > i then j else i)) H : List V → Hp → VK → Prop) xs H Q ∨ rMax K xs H Q
def rMin' (K : PySem.W.Frag) : List V → Hp → VK → Prop := fun xs H Q => (fun xs H Q => ∃ i j, xs = [.int i, .int j] ∧ Q (.int (if j < i then j else i)) H : List V → Hp → VK → Prop) xs H Q ∨ rMin K xs H Q
def mxL : Int → List Int → Int
  | m, [] => m
  | m, x :: xs => mxL (mx m x) xs
def mnL : Int → List Int → Int
  | m, [] => m
  | m, x :: xs => mnL (mn m x) xs
theorem mxL_ge : ∀ (xs : List Int) (m : Int), m ≤ mxL m xs ∧ (∀ y ∈ xs, y ≤ mxL m xs) ∧ (mxL m xs = m ∨ mxL m xs ∈ xs)
  | [], m => ⟨Int.le_refl _, (fun _ h => by cases h), Or.inl rfl⟩
  | x :: xs, m => by
    obtain ⟨h1, h2, h3⟩ := mxL_ge xs (mx m x)
    have hm : m ≤ mx m x ∧ x ≤ mx m x ∧ (mx m x = m ∨ mx m x = x) := by unfold mx; split <;> omega
    refine ⟨Int.le_trans hm.1 h1, fun y hy => ?_, ?_⟩
    · rcases List.mem_cons.mp hy with rfl | hy
      · exact Int.le_trans hm.2.1 h1
      · exact h2 y hy
    · show mxL (mx m x) xs = m ∨ mxL (mx m x) xs ∈ x :: xs
      rcases h3 with h3 | h3
      · rw [h3]
        rcases hm.2.2 with e | e
        · exact .inl e
        · exact .inr (by rw [e]; exact List.mem_cons_self)
      · exact .inr (List.mem_cons_of_mem _ h3)
theorem mnL_le : ∀ (xs : List Int) (m : Int), mnL m xs ≤ m ∧ (∀ y ∈ xs, mnL m xs ≤ y) ∧ (mnL m xs = m ∨ mnL m xs ∈ xs)
  | [], m => ⟨Int.le_refl _, (fun _ h => by cases h), Or.inl rfl⟩
  | x :: xs, m => by
    obtain ⟨h1, h2, h3⟩ := mnL_le xs (mn m x)
    have hm : mn m x ≤ m ∧ mn m x ≤ x ∧ (mn m x = m ∨ mn m x = x) := by unfold mn; split <;> omega
    refine ⟨Int.le_trans h1 hm.1, fun y hy => ?_, ?_⟩
    · rcases List.mem_cons.mp hy with rfl | hy
      · exact Int.le_trans h1 hm.2.1
      · exact h2 y hy
    · show mnL (mn m x) xs = m ∨ mnL (mn m x) xs ∈ x :: xs
      rcases h3 with h3 | h3
      · rw [h3]
        rcases hm.2.2 with e | e
        · exact .inl e
        · exact .inr (by rw [e]; exact List.mem_cons_self)
      · exact .inr (List.mem_cons_of_mem _ h3)
def maxF : List D → Option R
  | [.int i, .int j] => some (.sh (.int (mx i j)))
  | [.lst ds] => match intsD ds with
    | some (n :: ns) => some (.sh (.int (mxL n ns)))
    | _ => none
  | _ => none
def minF : List D → Option R
  | [.int i, .int j] => some (.sh (.int (mn i j)))
  | [.lst ds] => match intsD ds with
    | some (n :: ns) => some (.sh (.int (mnL n ns)))
    | _ => none
  | _ => none
theorem s_max {G : Gd} : SCall G (rMax' G.K) maxF := by
  intro Z F σ H env xs ds z Q hG g r h q
  subst hG
  unfold maxF at h
  split at h
  · obtain ⟨v, w, rfl, rv, rw'⟩ := r.two
    cases rv; cases rw'; cases h
    exact .inl ⟨_, _, rfl, q _ H F g (Ex.refl F) (.int _)⟩
  · obtain ⟨v, rfl, rv⟩ := r.one
    cases rv with
    | lst h1 r1 =>
      split at h
      · rename_i n ns e
        cases h
        have ev := r1.ints e
        subst ev
        refine .inr ⟨_, n :: ns, rfl, (g.fh.lr h1).sq, Nat.succ_pos _, fun m hm hy => ?_⟩
        obtain ⟨g1, g2, g3⟩ := mxL_ge ns n
        have e1 : m ≤ mxL n ns := (List.mem_cons.mp hm).elim (fun z => by omega) (g2 m)
        have e2 : mxL n ns ≤ m := g3.elim (fun z => by rw [z]; exact hy n List.mem_cons_self) (fun z => hy _ (List.mem_cons_of_mem _ z))
        rw [Int.le_antisymm e1 e2]
        exact q _ H F g (Ex.refl F) (.int _)
      · cases h
  · cases h
theorem s_min {G : Gd} : SCall G (rMin' G.K) minF := by
  intro Z F σ H env xs ds z Q hG g r h q
  subst hG
  unfold minF at h
  split at h
  · obtain ⟨v, w, rfl, rv, rw'⟩ := r.two
    cases rv; cases rw'; cases h
    exact .inl ⟨_, _, rfl, q _ H F g (Ex.refl F) (.int _)⟩
  · obtain ⟨v, rfl, rv⟩ := r.one
    cases rv with
    | lst h1 r1 =>
      split at h
      · rename_i n ns e
        cases h
        have ev := r1.ints e
        subst ev
        refine .inr ⟨_, n :: ns, rfl, (g.fh.lr h1).sq, Nat.succ_pos _, fun m hm hy => ?_⟩
        obtain ⟨g1, g2, g3⟩ := mnL_le ns n
        have e1 : mnL n ns ≤ m := (List.mem_cons.mp hm).elim (fun z => by omega) (g2 m)
        have e2 : m ≤ mnL n ns := g3.elim (fun z => by rw [z]; exact hy n List.mem_cons_self) (fun z => hy _ (List.mem_cons_of_mem _ z))
        rw [Int.le_antisymm e2 e1]
        exact q _ H F g (Ex.refl F) (.int _)
      · cases h
  · cases h
def sumF : List D → Option R
  | [.lst ds] => (intsD ds).map fun ns => .sh (.int ns.sum)
  | _ => none
theorem s_sum {G : Gd} : SCall G (rSum G.K) sumF := by
  intro Z F σ H env xs ds z Q hG g r h q
  subst hG
  unfold sumF at h
  split at h
  · rename_i ds
    obtain ⟨v, rfl, rv⟩ := r.one
    cases rv with
    | lst h1 r1 =>
      cases e : intsD ds with
      | none => rw [e] at h; cases h
      | some ns =>
        rw [e] at h; cases h
        have ev := r1.ints e
        subst ev
        exact ⟨_, ns, rfl, (g.fh.lr h1).sq, q _ H F g (Ex.refl F) (.int _)⟩
  · cases h
def bolF (f : List Bool → Bool) : List D → Option R
  | [.lst ds] => (bolsD ds).map fun ns => .sh (.bl (f ns))
  | _ => none
theorem s_all {G : Gd} : SCall G (rAll G.K) (bolF fun bs => bs.all id) := by
  intro Z F σ H env xs ds z Q hG g r h q
  subst hG
  unfold bolF at h
  split at h
  · rename_i ds
    obtain ⟨v, rfl, rv⟩ := r.one
    cases rv with
    | lst h1 r1 =>
      cases e : bolsD ds with
      | none => rw [e] at h; cases h
      | some ns =>
        rw [e] at h; cases h
        have ev := r1.bols e
        subst ev
        exact ⟨_, ns, rfl, (g.fh.lr h1).sq, q _ H F g (Ex.refl F) (.bl _)⟩
  · cases h
theorem s_any {G : Gd} : SCall G (rAny G.K) (bolF fun bs => bs.any id) := by
  intro Z F σ H env xs ds z Q hG g r h q
  subst hG
  unfold bolF at h
  split at h
  · rename_i ds
    obtain ⟨v, rfl, rv⟩ := r.one
    cases rv with
    | lst h1 r1 =>
      cases e : bolsD ds with
      | none => rw [e] at h; cases h
      | some ns =>
        rw [e] at h; cases h
        have ev := r1.bols e
        subst ev
        exact ⟨_, ns, rfl, (g.fh.lr h1).sq, q _ H F g (Ex.refl F) (.bl _)⟩
  · cases h
/-- tuple(..), list(..) -/
def tupF : List D → Option R
  | [.lst ds] => some (.sh (.tup ds))
  | [.tup ds] => some (.sh (.tup ds))
  | _ => none
def lstF : List D → Option R
  | [.lst ds] => some (.ow ds)
  | [.tup ds] => some (.ow ds)
  | _ => none
/-- tuple(x) -/
theorem call_tupleN {X : Cx} : CallR X (.type "tuple") (fun xs H Q => ∃ p ys, xs = [.ref p] ∧ ((SqL X.K H p ys ∧ ∀ (l : Addr) (o : Obj), H l = none → o.dict = none → Q (.ref l) (upd H l (.frz o (.tup ys)))) ∨ (SqT X.K H p ys ∧ Q (.ref p) H))) := by
  intro pins s σ H xs us Q I r h
  obtain ⟨p, ys, rfl, h⟩ := h
  obtain ⟨u, rfl, rx⟩ := vals1 r
  cases rx
  rcases h with ⟨hq, q⟩ | ⟨hq, q⟩
  · obtain ⟨its, r', pl, hz⟩ := I.list hq
    have hlen := r'.length
    refine call_tuple_list pl.isList (fun h' kp => ?_) (by simp only [List.size_toArray] <;> omega)
    have I1 : Inv X pins σ H { s with heap := h' } := I.kept (t' := s.toks) kp
    refine ⟨.ref h'.objs.size, _, I1.laid (t' := s.toks) (o := .frz { cls := .type "tuple", data := .seq its.toArray } (.tup ys)) (fun b o e => Heap.get?_push_of_some _ e) (Nat.le_refl _) ?_, rfl, q _ _ (I1.hok.fresh (Nat.le_refl _)) rfl⟩
    exact ⟨Heap.get?_push_size _ rfl, hz, its, r', IsTup.new _ _⟩
  · obtain ⟨its, r', pl, hz⟩ := I.tuple hq
    exact call_tuple_same pl ⟨.ref p, H, I, rfl, q⟩
theorem s_tup {G : Gd} : SCall G (fun xs H Q => ∃ p ys, xs = [.ref p] ∧ ((SqL G.K H p ys ∧ ∀ (l : Addr) (o : Obj), H l = none → o.dict = none → Q (.ref l) (upd H l (.frz o (.tup ys)))) ∨ (SqT G.K H p ys ∧ Q (.ref p) H))) tupF := by
  intro Z F σ H env xs ds z Q hG g r h q
  subst hG
  unfold tupF at h
  split at h
  · obtain ⟨v, rfl, rv⟩ := r.one
    cases rv with
    | lst h1 r1 =>
      cases h
      exact ⟨_, _, rfl, .inl ⟨(g.fh.lr h1).sq, fun p o hp ho => q _ _ _ (g.layF hp) (Ex.new (g.fresh hp)) (.tup (.new ho) (r1.mono (Ex.new (g.fresh hp))))⟩⟩
  · obtain ⟨v, rfl, rv⟩ := r.one
    cases rv with
    | tup h1 r1 =>
      cases h
      exact ⟨_, _, rfl, .inr ⟨g.fh.t h1.t, q _ H F g (Ex.refl F) (.tup h1 r1)⟩⟩
  · cases h
theorem s_lst {G : Gd} : SCall G (fun xs H Q => ∃ p ys, xs = [.ref p] ∧ (SqL G.K H p ys ∨ SqT G.K H p ys) ∧ ∀ l, H l = none → Q (.ref l) (upd H l (.lst ys))) lstF := by
  intro Z F σ H env xs ds z Q hG g r h q
  subst hG
  unfold lstF at h
  split at h
  · obtain ⟨v, rfl, rv⟩ := r.one
    cases rv with
    | lst h1 r1 =>
      cases h
      exact ⟨_, _, rfl, .inl (g.fh.lr h1).sq, fun p hp => q _ _ _ (g.lay hp) (Ex.refl F) (g.mine hp r1)⟩
  · obtain ⟨v, rfl, rv⟩ := r.one
    cases rv with
    | tup h1 r1 =>
      cases h
      exact ⟨_, _, rfl, .inr (g.fh.t h1.t), fun p hp => q _ _ _ (g.lay hp) (Ex.refl F) (g.mine hp r1)⟩
  · cases h
def gcdF : List D → Option R
  | [.int a, .int b] => some (.sh (.int ((Nat.gcd a.natAbs b.natAbs : Nat) : Int)))
  | _ => none
theorem s_gcd {G : Gd} : SCall G rGcd gcdF := by
  intro Z F σ H env xs ds z Q hG g r h q
  unfold gcdF at h
  split at h
  · obtain ⟨v, w, rfl, rv, rw'⟩ := r.two
    cases rv; cases rw'; cases h
    exact ⟨_, _, rfl, q _ H F g (Ex.refl F) (.int _)⟩
  · cases h
/-- str(..) -/
def strF : List D → Option R
  | [.int i] => if i.natAbs.log2 < 1920 then some (.sh (.str (toString i : String))) else none
  | [.str x] => some (.sh (.str x))
  | _ => none
def rStrU : List V → Hp → VK → Prop := fun xs H Q => (fun xs H Q => ∃ i, xs = [.int i] ∧ i.natAbs.log2 < 1920 ∧ Q (.str (toString i : String)) H : List V → Hp → VK → Prop) xs H Q ∨ (fun xs H Q => ∃ a, xs = [.str a] ∧ Q (.str a) H : List V → Hp → VK → Prop) xs H Q
theorem s_str {G : Gd} : SCall G rStrU strF := by
  intro Z F σ H env xs ds z Q hG g r h q
  unfold strF at h
  split at h
  · split at h
    · rename_i c
      obtain ⟨v, rfl, rv⟩ := r.one
      cases rv; cases h
      exact .inl ⟨_, rfl, c, q _ H F g (Ex.refl F) (.str _)⟩
    · cases h
  · obtain ⟨v, rfl, rv⟩ := r.one
    cases rv; cases h
    exact .inr ⟨_, rfl, q _ H F g (Ex.refl F) (.str _)⟩
  · cases h
/-! ### isinstance with a built-in type -/
inductive Ty where
  | int | bool | str | tuple | list | dict
def Ty.name : Ty → String
  | .int => "int"
  | .bool => "bool"
  | .str => "str"
  | .tuple => "tuple"
  | .list => "list"
  | .dict => "dict"
def isiD (d : D) (t : Ty) : Option Bool := match d with
  | .non => some false
  | .bl _ => match t with
    | .int => some true
    | .bool => some true
    | _ => some false
  | .int _ => match t with
    | .int => some true
    | _ => some false
  | .str _ => match t with
    | .str => some true
    | _ => some false
  | .tup _ => match t with
    | .tuple => some true
    | _ => some false
  | .lst _ => match t with
    | .list => some true
    | _ => some false
  | .dic _ _ => match t with
    | .dict => some true
    | _ => some false
  | _ => none
def ownT : D → String
  | .non => "NoneType"
  | .bl _ => "bool"
  | .int _ => "int"
  | .str _ => "str"
  | .tup _ => "tuple"
  | .lst _ => "list"
  | _ => "dict"
theorem kit_all {d : D} {t : Ty} {b : Bool} (h : isiD d t = some b) : kitB (ownT d) t.name = some b := by
  cases d <;> cases t <;> first | (cases h; simp only [ownT, Ty.name]; decide +kernel) | cases h
def isiF (t : Ty) : D → Option R := fun d => bR (isiD d t)
def rIsi1 (K : PySem.W.Frag) (n : String) : V → Hp → VK → Prop := fun x H Q => ∃ (t : Value) (b : Bool), TyX K H x t ∧ PySem.W.kitOne K t (.type n) = some b ∧ Q (.bl b) H
theorem s_isi {G : Gd} {t : Ty} : SUn G (rIsi1 G.K t.name) (isiF t) := by
  intro Z F σ H env x d z Q hG g rx h q
  subst hG
  unfold isiF bR at h
  cases e : isiD d t with
  | none => rw [e] at h; cases h
  | some b =>
    rw [e] at h; cases h
    have k := kit_ty (K := Z.G.K) (kit_all e)
    have fin : Q (.bl b) H := q _ H F g (Ex.refl F) (.bl b)
    cases rx with
    | non => exact ⟨_, b, .base .non, k, fin⟩
    | bl _ => exact ⟨_, b, .base (.bl _), k, fin⟩
    | int _ => exact ⟨_, b, .base (.int _), k, fin⟩
    | str _ => exact ⟨_, b, .base (.str _), k, fin⟩
    | tup h1 r1 =>
      refine ⟨_, b, ?_, k, fin⟩
      rcases g.fh.t h1.t with (h1 | ⟨o, h1⟩) | ⟨o, its, n, h1, h2, _⟩
      · exact .base (.tup h1)
      · exact .fTuple h1
      · exact .kTuple h1 h2
    | lst h1 r1 =>
      refine ⟨_, b, ?_, k, fin⟩
      rcases g.fh.lr h1 with (h1 | ⟨o, h1⟩) | ⟨its, n, h1, _⟩
      · exact .base (.lst h1)
      · exact .base (.frz h1)
      · exact .kList h1 rfl
    | dic h1 l r1 => exact ⟨_, b, .base (.dK (g.fh _ _ h1)), k, fin⟩
    | obj h1 h2 h3 h4 r1 => cases e
    | wtp h1 r1 => cases e
    | dev j x => cases e
section
variable {X : Cx} {Z : Zd} {a : Expr} {oa : Env → OE} {p p2 pos : Pos}
theorem n_isi (t : Ty) (hg : Gl X "isinstance" := by rfl) (hm : X.mg "isinstance" = none) {y : PySem.Str} (hy : Gl X y := by rfl) (hmy : X.mg y = none) (hv : bootBuiltins y = some (.type t.name) := by decide +kernel) (ha : PE X a (tE Z oa)) (hK : Z.G.K = X.K)
    (hdb : (y == ("__debug__" : PySem.Str)) = false := by decide) (hnn : y ≠ "__name__" := by decide)
    (he : starEach [a, .Name y p2] X.env = (false, eval a X.env) :: starEach [.Name y p2] X.env := by rfl) :
    PE X (.Call (.Name "isinstance" p) [a, .Name y p2] [] pos) (tE Z (oUn (isiF t) oa)) := by
  have pn : PE X (.Name y p2) (tC (.ty t.name)) := pe_bltn hy hmy hv rfl hnn hdb
  refine PE.imp (pe_callB call_isi hg hm (by decide +kernel) (pa_cons ha (pa_cons pn pa_nil) he) (he := he)) fun σ H Q ⟨F, env, g, h⟩ => ?_
  refine seqE g h fun r1 env1 v1 H1 F1 g1 x1 rp1 h1 => ?_
  cases e : isiF t r1.fz with
  | none =>
    rw [e] at h1
    exact h1.elim
  | some z =>
    rw [e] at h1
    obtain ⟨u, b, h2, h3, h4⟩ := s_isi Z F1 σ H1 env1 v1 _ z Q rfl g1 rp1 e h1
    rw [hK] at h2 h3
    exact ⟨v1, .ty t.name, u, _, b, rfl, .ty _, h2, h3, h4⟩
end
/-! ### repr -/
def D.pyk : Key → PyData
  | .inl i => .int i
  | .inr x => .str x
def pyS : D → Option PyData
  | .dic ks ds => if ds.all flatD && decide (ks.length = ds.length) then some (.dict ((ks.map D.pyk).zip (pydL ds))) else none
  | d => if d.plain then some d.pyd else none
def okShow (p : PyData) : Bool := p.showable && ((p.leavesShort 1921 && decide (p.bulk ≤ 8000)) || (p.leavesShort 120 && decide (p.bulk ≤ 100000))) && decide (p.depth ≤ 60)
def reprF : List D → Option R
  | [d] => match pyS d with
    | some p => if okShow p then some (.sh (.str p.shown)) else none
    | none => none
  | _ => none
def flatP : PyData → Bool
  | .none => true
  | .bool _ => true
  | .int _ => true
  | .str _ => true
  | _ => false
def rRepr (K : PySem.W.Frag) : List V → Hp → VK → Prop := fun xs H Q => ∃ (x : V) (p : PyData), xs = [x] ∧ okShow p = true ∧
  (Dp K H x p ∨ ∃ (a : Addr) (ks : List Key) (vs : List V) (ds : List PyData), x = .ref a ∧ H a = some (.dK (ks.zip vs)) ∧ ks.length = vs.length ∧ DpAll K H vs ds ∧ ds.all flatP = true ∧ p = .dict ((ks.map D.pyk).zip ds)) ∧ Q (.str p.shown) H
section
variable {K : PySem.W.Frag} {H : Hp}
mutual
theorem dp_noDict : ∀ {v : V} {p : PyData}, Dp K H v p → p.hasDict = false
  | _, _, .non => by simp only [PyData.hasDict]
  | _, _, .bl b => by simp only [PyData.hasDict]
  | _, _, .int i => by simp only [PyData.hasDict]
  | _, _, .str x => by simp only [PyData.hasDict]
  | _, _, .lst _ h => by simp only [PyData.hasDict, dpAll_noDict h]
  | _, _, .tup _ h => by simp only [PyData.hasDict, dpAll_noDict h]
theorem dpAll_noDict : ∀ {vs : List V} {ps : List PyData}, DpAll K H vs ps → PyData.hasDictAll ps = false
  | _, _, .nil => by simp only [PyData.hasDictAll]
  | _, _, .cons h r => by simp only [PyData.hasDictAll, dp_noDict h, dpAll_noDict r, Bool.or_false]
end
theorem reads_flat {h : Heap} {v : V} {p : PyData} {u : Value} (a : Dp K H v p) (b : RelV v u) (f : flatP p = true) : Reads h u p [] := by
  cases a with
  | non => cases b; exact .none
  | bl x => cases b; exact .bool x
  | int i => obtain ⟨t, rfl⟩ := b; exact .int i t
  | str x => obtain ⟨t, rfl⟩ := b; exact .str x t
  | lst _ _ => cases f
  | tup _ _ => cases f
theorem pairs_reads {P : Program} {w : World} {h : Heap} {H' : Hp} : ∀ {es : List DictEntry} {ks : List Key} {vs : List V} {kvs : List (Key × Value)} {ps : List PyData}, Pairs (mixKind P w) es kvs → KV (ks.zip vs) kvs → ks.length = vs.length → DpAll K H' vs ps → ps.all flatP = true →
    ReadsAll h (es.map (·.key)) (((ks.map D.pyk).zip ps).map (·.1)) [] ∧ ReadsAll h (es.map (·.val)) (((ks.map D.pyk).zip ps).map (·.2)) []
  | [], [], [], _, ps, _, _, _, d, _ => by
    cases d
    exact ⟨.nil, .nil⟩
  | _, _ :: _, [], _, _, _, _, l, _, _ => by cases l
  | _, [], _ :: _, _, _, _, _, l, _, _ => by cases l
  | e :: es, [], [], kvs, _, p, r, _, _, _ => by
    cases p
    cases r
  | es, k :: ks, v :: vs, kvs, ps, p, r, l, d, f => by
    cases d with
    | cons d1 d2 =>
      cases r with
      | cons r1 r2 =>
        cases p with
        | cons p1 p2 p3 =>
          rw [List.all_cons, Bool.and_eq_true] at f
          obtain ⟨a1, a2⟩ := pairs_reads (h := h) p3 r2 (Nat.succ.inj l) d2 f.2
          have e1 := r1.1
          have e2 := r1.2
          rw [← p2] at e2
          rw [← e1] at p1
          refine ⟨ReadsAll.cons (as := []) (bs := []) ?_ a1, ReadsAll.cons (as := []) (bs := []) (reads_flat d1 e2 f.1) a2⟩
          rcases keyIs_shape p1 with ⟨i, t, e3, e4⟩ | ⟨x, t, e3, e4⟩
          · dsimp only at e3
            subst e3
            show Reads h (DictEntry.key _) (.int i) []
            rw [e4]
            exact .int i t
          · dsimp only at e3
            subst e3
            show Reads h (DictEntry.key _) (.str x) []
            rw [e4]
            exact .str x t
end
theorem okShow_fits {p : PyData} (h : okShow p = true) : p.showable = true ∧ p.shown.length ≤ sizeLine ∧ p.depth ≤ 60 := by
  unfold okShow at h
  simp only [Bool.and_eq_true, Bool.or_eq_true, decide_eq_true_eq] at h
  obtain ⟨⟨h1, h2⟩, h4⟩ := h
  refine ⟨h1, ?_, h4⟩
  rw [sizeLine_eq]
  rcases h2 with ⟨h2, h3⟩ | ⟨h2, h3⟩
  · have h5 := PyData.shown_le_bulk 1921 (by decide) p h2
    omega
  · have h5 := PyData.shown_le_bulk 120 (by decide) p h2
    omega
theorem call_reprU {X : Cx} (hu : X.A.units + 150 < cLine) (hg : X.A.guards = some []) : CallR X (.builtin "repr") (rRepr X.K) := by
  intro pins s σ H xs us Q I r h
  obtain ⟨x, p, rfl, ok, hd, q⟩ := h
  obtain ⟨h1, h2, h3⟩ := okShow_fits ok
  obtain ⟨v, rfl, rv⟩ := vals1 r
  rcases hd with hd | ⟨a, ks, vs, ds, rfl, hH, hl, hds, hf, rfl⟩
  · have nd := dp_noDict hd
    obtain ⟨as, rd⟩ := Dp.reads I p x v hd rv
    cases rd with
    | none => exact PySem.P.repr_of_none ⟨.str _, H, I.tok _, ⟨_, rfl⟩, q⟩
    | bool b => exact PySem.P.repr_of_bool ⟨.str _, H, I.tok _, ⟨_, rfl⟩, q⟩
    | int i t =>
      have h1' : i.natAbs.log2 < 1920 := by simpa only [PyData.showable, decide_eq_true_eq] using h1
      exact PySem.P.repr_of_int h1' ⟨.str _, H, I.tok _, ⟨_, rfl⟩, q⟩
    | str z t => exact PySem.P.repr_of_str ⟨.str _, H, I.tok _, ⟨_, rfl⟩, q⟩ h2
    | list a1 a2 a3 a4 =>
      exact repr_of_reads' (.list a1 a2 a3 a4) h1 (PyData.noDict_hsm nd) hg (by omega) (fun _ _ e => e) (fun h' u tk hk => ⟨.str _, H, I.kept (t' := tk) hk, ⟨u, rfl⟩, q⟩) h2
    | tuple a1 a2 a3 a4 =>
      exact repr_of_reads' (.tuple a1 a2 a3 a4) h1 (PyData.noDict_hsm nd) hg (by omega) (fun _ _ e => e) (fun h' u tk hk => ⟨.str _, H, I.kept (t' := tk) hk, ⟨u, rfl⟩, q⟩) h2
    | dict a1 a2 a3 a4 a5 => cases hd
  · cases rv
    obtain ⟨_, hs, ws, kv, o, es, ep, e1, e2, e3, e4, e5, _⟩ := I.hok a _ hH
    obtain ⟨k1, k2⟩ := pairs_reads (h := s.heap) e5 kv hl hds hf
    refine repr_of_reads' (.dict e1 e2.1 e3 k1 k2) h1 (fun _ hm => ?_) hg (by omega) (fun _ _ e => e) (fun h' u tk hk => ⟨.str _, H, I.kept (t' := tk) hk, ⟨u, rfl⟩, q⟩) h2
    have hm' : sysModules = a := by simpa using hm
    rw [hm'] at hs
    simp at hs
theorem s_repr {G : Gd} : SCall G (rRepr G.K) reprF := by
  intro Z F σ H env xs ds z Q hG g r h q
  subst hG
  unfold reprF at h
  split at h
  · rename_i d
    obtain ⟨v, rfl, rv⟩ := r.one
    cases e : pyS d with
    | none => rw [e] at h; cases h
    | some p =>
      rw [e] at h
      dsimp only at h
      split at h
      · rename_i ok
        cases h
        refine ⟨v, p, rfl, ok, ?_, q _ H F g (Ex.refl F) (.str _)⟩
        cases rv with
        | dic h1 l r1 =>
          rename_i a ks vs ds
          unfold pyS at e
          dsimp only at e
          split at e
          · rename_i c
            rw [Bool.and_eq_true, decide_eq_true_eq] at c
            cases e
            refine .inr ⟨a, ks, vs, pydL ds, rfl, g.fh _ _ h1, l, ?_, ?_, rfl⟩
            · have pl : plainL ds = true := by
                have : ∀ ds : List D, ds.all flatD = true → plainL ds = true := by
                  intro ds
                  induction ds with
                  | nil => intro _; rfl
                  | cons d ds ih =>
                    intro f
                    rw [List.all_cons, Bool.and_eq_true] at f
                    rw [plainL, ih f.2, Bool.and_true]
                    cases d <;> first | rfl | cases f.1
                exact this ds c.1
              exact (r1.mono g.fh).dp pl
            · have : ∀ ds : List D, ds.all flatD = true → (pydL ds).all flatP = true := by
                intro ds
                induction ds with
                | nil => intro _; rfl
                | cons d ds ih =>
                  intro f
                  rw [List.all_cons, Bool.and_eq_true] at f
                  rw [pydL, List.all_cons, ih f.2, Bool.and_true]
                  cases d <;> first | rfl | cases f.1
              exact this ds c.1
          · cases e
        | non => cases e; exact .inl .non
        | bl b => cases e; exact .inl (.bl b)
        | int b => cases e; exact .inl (.int b)
        | str b => cases e; exact .inl (.str b)
        | tup h1 r1 =>
          unfold pyS at e
          dsimp only at e
          split at e
          · rename_i c
            cases e
            exact .inl ((Rep.mono g.fh (.tup h1 r1)).dp c)
          · cases e
        | lst h1 r1 =>
          unfold pyS at e
          dsimp only at e
          split at e
          · rename_i c
            cases e
            exact .inl ((Rep.mono g.fh (.lst h1 r1)).dp c)
          · cases e
        | obj h1 h2 h3 h4 r1 =>
          unfold pyS at e
          dsimp only at e
          split at e
          · rename_i c
            simp [D.plain] at c
          · cases e
        | wtp h1 r1 =>
          unfold pyS at e
          dsimp only at e
          split at e
          · rename_i c
            simp [D.plain] at c
          · cases e
        | dev j x =>
          unfold pyS at e
          dsimp only at e
          split at e
          · rename_i c
            simp [D.plain] at c
          · cases e
      · cases h
  · cases h
end FE

namespace FE
open PySem PySem.Spec PyProof.Rows L2

/-! ### statements -/
def PostXS (Z : Zd) (F : Hp) (x : Xc) (env' : Env) : Prop := ∀ cls d σ' H' F', Good Z F' σ' H' env' → Ex F F' → RepX Z F' cls d x → Z.W cls d σ' H'
def PostS (Z : Zd) (F : Hp) (Dn : Ends) : OS → Prop
  | .nx env' => ∀ σ' H' F', Good Z F' σ' H' env' → Ex F F' → Dn.nx σ' H'
  | .ret r env' => ∀ v σ' H' F', Good Z F' σ' H' env' → Ex F F' → RepR Z F' σ' env' H' v r → Dn.rt v H'
  | .brk env' => ∀ σ' H' F', Good Z F' σ' H' env' → Ex F F' → Dn.bk σ' H'
  | .cnt env' => ∀ σ' H' F', Good Z F' σ' H' env' → Ex F F' → Dn.ct σ' H'
  | .exc x env' => PostXS Z F x env'
  | .bad => False
def tS (Z : Zd) (o : Env → OS) : TS := fun Dn σ H => ∃ F env, Good Z F σ H env ∧ PostS Z F Dn (o env)
def OS.seq (o : OS) (f : Env → OS) : OS := match o with
  | .nx env => f env
  | .ret r env => .ret r env
  | .brk env => .brk env
  | .cnt env => .cnt env
  | .exc x env => .exc x env
  | .bad => .bad
section
variable {Z : Zd} {F F' F1 H H' : Hp} {σ : L2.St} {env : Env} {Dn : Ends}
theorem PostXS.up {x : Xc} {env' : Env} (e : Ex F F1) (h : PostXS Z F x env') : PostXS Z F1 x env' := fun cls d σ' H' F' g x => h cls d σ' H' F' g (e.trans x)
theorem PostXS.at {x : Xc} {env' : Env} (h : PostXS Z F x env') : PostX Z F σ x env' := fun cls d H' F' g x r => h cls d σ H' F' g x r
theorem PostS.up {o : OS} (e : Ex F F1) (h : PostS Z F Dn o) : PostS Z F1 Dn o := by
  cases o with
  | nx env' => exact fun σ' H' F' g x => h σ' H' F' g (e.trans x)
  | ret r env' => exact fun v σ' H' F' g x => h v σ' H' F' g (e.trans x)
  | brk env' => exact fun σ' H' F' g x => h σ' H' F' g (e.trans x)
  | cnt env' => exact fun σ' H' F' g x => h σ' H' F' g (e.trans x)
  | exc x env' => exact PostXS.up e h
  | bad => exact h
/-- an expression within a statement -/
theorem seqES {o : Env → OE} {f : R → Env → OS} {k : VK} (g : Good Z F σ H env) (h : PostS Z F Dn ((o env).bindS f))
    (c : ∀ r env1 v H1 F1, Good Z F1 σ H1 env1 → Ex F F1 → RepR Z F1 σ env1 H1 v r → PostS Z F1 Dn (f r env1) → k v H1) : tE Z o σ H k := by
  refine ⟨F, env, g, ?_⟩
  cases e : o env with
  | ok r env1 =>
    rw [e] at h
    exact fun v H1 F1 g1 x1 r1 => c r env1 v H1 F1 g1 x1 r1 (PostS.up x1 h)
  | exc x env1 =>
    rw [e] at h
    exact PostXS.at h
  | bad =>
    rw [e] at h
    exact h
theorem seqTS {o : Env → OT} {f : Bool → Env → OS} {k : Bool → Hp → Prop} (g : Good Z F σ H env) (h : PostS Z F Dn ((o env).bindS f))
    (c : ∀ b env1 H1 F1, Good Z F1 σ H1 env1 → Ex F F1 → PostS Z F1 Dn (f b env1) → k b H1) : tT Z o σ H k := by
  refine ⟨F, env, g, ?_⟩
  cases e : o env with
  | ok r env1 =>
    rw [e] at h
    exact fun H1 F1 g1 x1 => c r env1 H1 F1 g1 x1 (PostS.up x1 h)
  | exc x env1 =>
    rw [e] at h
    exact PostXS.at h
  | bad =>
    rw [e] at h
    exact h
end
def sPass : Env → OS := fun env => .nx env
def sBreak : Env → OS := fun env => .brk env
def sCont : Env → OS := fun env => .cnt env
def sRet (oa : Env → OE) : Env → OS := fun env => (oa env).bindS fun r e1 => .ret r e1
def sRetN : Env → OS := fun env => .ret (.sh .non) env
def sExpr (oa : Env → OE) : Env → OS := fun env => (oa env).bindS fun _ e1 => .nx e1
def sIf (ot : Env → OT) (o1 o2 : Env → OS) : Env → OS := fun env => (ot env).bindS fun b e1 => if b = true then o1 e1 else o2 e1
def sAsg (i : Nat) (oa : Env → OE) : Env → OS := fun env => (oa env).bindS fun r e1 => if noIo e1[i]? = true then .nx (e1.set i r.sv) else .bad
def sSeq (o1 o2 : Env → OS) : Env → OS := fun env => (o1 env).seq o2
/-- a value moved out of its name -/
def oMv (i : Nat) : Env → OE := fun env => match env[i]? with
  | some (.sh d) => .ok (.sh d) env
  | some (.ow ds) => .ok (.ow ds) (env.set i .no)
  | _ => .bad
/-- xs[i] where xs is one's own -/
def ownAt (env : Env) (i : Nat) : Option (List D) := match env[i]? with
  | some (.ow ds) => some ds
  | some (.io ds) => some ds
  | some (.sh (.lst ds)) => some ds
  | _ => none
def here : Option SV → Bool
  | none => false
  | some .no => false
  | _ => true
def oIxV (i : Nat) (ob : Env → OE) : Env → OE := fun env => if here env[i]? = true then (ob env).bind fun r e1 => match ownAt e1 i with
  | some ds => match r.fz with
    | .int k => match atI ds k with
      | some d => .ok (.sh d) e1
      | none => .bad
    | _ => .bad
  | none => match e1[i]? with
    | some (.sh d) => match ixF d r.fz with
      | some z => .ok z e1
      | none => .bad
    | _ => .bad
  else .bad
def oLenV (i : Nat) : Env → OE := fun env => match ownAt env i with
  | some ds => .ok (.sh (.int ds.length)) env
  | none => match env[i]? with
    | some (.sh d) => match lenF [d] with
      | some z => .ok z env
      | none => .bad
    | _ => .bad
def setOwn (env : Env) (i : Nat) (ds : List D) : Option Env := match env[i]? with
  | some (.ow _) => some (env.set i (.ow ds))
  | some (.io _) => some (env.set i (.io ds))
  | _ => none
/-- xs[i] = v, xs one's own -/
def sSetI (i : Nat) (oi ov : Env → OE) : Env → OS := fun env => (ov env).bindS fun rv e1 => if here e1[i]? = true then (oi e1).bindS fun ri e2 => match e2[i]?.bind Own with
  | some ds => match ri.fz with
    | .int k => match ixN ds.length k with
      | some j => match setOwn e2 i (ds.set j rv.fz) with
        | some e3 => .nx e3
        | none => .bad
      | none => .bad
    | _ => .bad
  | none => .bad
  else .bad
/-- xs.append(v) -/
def sApp (i : Nat) (ov : Env → OE) : Env → OS := fun env => if (env[i]?.bind Own).isSome = true then (ov env).bindS fun rv e1 => match e1[i]?.bind Own with
  | some ds => if ds.length < 1000000 then match setOwn e1 i (ds ++ [rv.fz]) with
      | some e3 => .nx e3
      | none => .bad
    else .bad
  | none => .bad
  else .bad

section
variable {Z : Zd} {F F' F1 H H' : Hp} {σ : L2.St} {env env' : Env}
/-- one's own list is written -/
theorem Good.wr (g : Good Z F σ H env) {i : Nat} {s : SV} {ds ds' : List D} {a : Addr} {vs vs' : List V} (hs : env[i]? = some s) (ho : Own s = some ds) (hσ : σ[i]? = some (some (.ref a))) (hH : H a = some (.lst vs)) (r : RepL Z.G F vs' ds') (h : setOwn env i ds' = some env') :
    Good Z F σ (upd H a (.lst vs')) env' := by
  obtain ⟨a2, vs2, q1, q2, q3, q4, q5⟩ := g.ow i s ds hs ho
  rw [hσ] at q1
  cases q1
  obtain ⟨s', rfl, hk⟩ : ∃ s', env' = env.set i s' ∧ ((∃ x, s = .ow x ∧ s' = .ow ds') ∨ ∃ x, s = .io x ∧ s' = .io ds') := by
    unfold setOwn at h
    rw [hs] at h
    cases s with
    | ow x => cases h; exact ⟨_, rfl, .inl ⟨_, rfl, rfl⟩⟩
    | io x => cases h; exact ⟨_, rfl, .inr ⟨_, rfl, rfl⟩⟩
    | no => cases h
    | sh d => cases h
  have hl : i < env.length := (List.getElem?_eq_some_iff.mp hs).1
  have own' : Own s' = some ds' := by
    rcases hk with ⟨x, _, rfl⟩ | ⟨x, _, rfl⟩ <;> rfl
  have owned : ∀ {j t}, env[j]? = some t → (Own t).isSome = true → j ≠ i → σ[j]? ≠ some (some (.ref a)) := fun {j t} e1 e2 ne => g.dis i j a s t (Ne.symm ne) hs e1 (by rw [ho]; rfl) e2 hσ
  refine ⟨g.ff, fun b o e => ?_, fun b o e n => ?_, g.new, by rw [List.length_set]; exact g.len, fun j d e => ?_, fun j t es e eo => ?_, fun j es e => ?_, fun j es e b eb => ?_, fun b hb => ?_, fun j k b t u njk ej ek tj tk hj hk2 => ?_⟩
  · have ne : b ≠ a := fun z => by
      subst z
      rw [q3] at e
      cases e
    rw [upd_ne ne]
    exact g.fh b o e
  · have ne : b ≠ a := fun z => by
      subst z
      rcases q5 with z | z
      · exact n z
      · rw [z] at e
        cases e
    rw [upd_ne ne]
    exact g.keep b o e n
  · rcases get_set e with ⟨rfl, e2⟩ | ⟨ne, e2⟩
    · rcases hk with ⟨x, _, rfl⟩ | ⟨x, _, rfl⟩ <;> cases e2
    · exact g.sh j d e2
  · rcases get_set e with ⟨rfl, e2⟩ | ⟨ne, e2⟩
    · subst e2
      rw [own'] at eo
      cases eo
      exact ⟨a, vs', hσ, upd_same, q3, r, q5⟩
    · obtain ⟨b, ws, h1, h2, h3, h4, h5⟩ := g.ow j t es e2 eo
      have nb : b ≠ a := fun z => by
        subst z
        exact owned e2 (by rw [eo]; rfl) (Ne.symm ne) h1
      exact ⟨b, ws, h1, by rw [upd_ne nb]; exact h2, h3, h4, h5⟩
  · rcases get_set e with ⟨rfl, e2⟩ | ⟨ne, e2⟩
    · rcases hk with ⟨x, rfl, rfl⟩ | ⟨x, rfl, rfl⟩
      · cases e2
      · exact g.io i x hs
    · exact g.io j es e2
  · rcases get_set e with ⟨rfl, e2⟩ | ⟨ne, e2⟩
    · rcases hk with ⟨x, rfl, rfl⟩ | ⟨x, rfl, rfl⟩
      · exact g.nio i x hs b eb
      · cases e2
    · exact g.nio j es e2 b eb
  · obtain ⟨j, es, e1, e2⟩ := g.pa b hb
    by_cases ne : i = j
    · subst ne
      rw [hs] at e1
      cases e1
      rcases hk with ⟨x, z, _⟩ | ⟨x, _, rfl⟩
      · cases z
      · exact ⟨i, ds', List.getElem?_set_self hl, e2⟩
    · exact ⟨j, es, by rw [List.getElem?_set_ne ne]; exact e1, e2⟩
  · have get : ∀ {j t}, (env.set i s')[j]? = some t → (Own t).isSome = true → ∃ t', env[j]? = some t' ∧ (Own t').isSome = true := fun {j t} e1 e2 => by
      rcases get_set e1 with ⟨rfl, e3⟩ | ⟨_, e3⟩
      · exact ⟨s, hs, by rw [ho]; rfl⟩
      · exact ⟨t, e3, e2⟩
    obtain ⟨t1, a1, a2⟩ := get ej tj
    obtain ⟨t2, a3, a4⟩ := get ek tk
    exact g.dis j k b t1 t2 njk a1 a3 a2 a4 hj hk2
end

section
variable {X : Cx} {Z : Zd} {a c : Expr} {oa ob : Env → OE} {ot : Env → OT} {o1 o2 : Env → OS} {st : Stmt} {rest b1 b2 : List Stmt} {pos : Pos}
theorem n_pass : PS X (.Pass pos) (tS Z sPass) := PS.imp ps_pass fun Dn σ H ⟨F, env, g, h⟩ => h σ H F g (Ex.refl F)
theorem n_break : PS X (.Break pos) (tS Z sBreak) := PS.imp ps_break fun Dn σ H ⟨F, env, g, h⟩ => h σ H F g (Ex.refl F)
theorem n_cont : PS X (.Continue pos) (tS Z sCont) := PS.imp ps_continue fun Dn σ H ⟨F, env, g, h⟩ => h σ H F g (Ex.refl F)
theorem n_ret (ha : PE X a (tE Z oa)) : PS X (.Return (some a) pos) (tS Z (sRet oa)) := by
  refine PS.imp (ps_ret ha) fun Dn σ H ⟨F, env, g, h⟩ => ?_
  exact seqES g h fun r env1 v H1 F1 g1 x1 r1 h1 => h1 v σ H1 F1 g1 (Ex.refl F1) r1
theorem n_retN : PS X (.Return none pos) (tS Z sRetN) := PS.imp ps_retN fun Dn σ H ⟨F, env, g, h⟩ => h .non σ H F g (Ex.refl F) .non
theorem n_expr (ha : PE X a (tE Z oa)) (hs : swapsWith a none pos.line X.env = pure false := by rfl) : PS X (.Expr a pos) (tS Z (sExpr oa)) := by
  refine PS.imp (ps_expr ha hs) fun Dn σ H ⟨F, env, g, h⟩ => ?_
  exact seqES g h fun r env1 v H1 F1 g1 x1 r1 h1 => h1 σ H1 F1 g1 (Ex.refl F1)
theorem n_ifS (hc : PT X c (tT Z ot)) (h1 : PSs X b1 (tS Z o1)) (h2 : PSs X b2 (tS Z o2)) : PS X (.If c b1 b2 pos) (tS Z (sIf ot o1 o2)) := by
  refine PS.imp (ps_if hc h1 h2) fun Dn σ H ⟨F, env, g, h⟩ => ?_
  refine seqTS g h fun k env1 H1 F1 g1 x1 h1 => ?_
  cases k with
  | true => exact ⟨F1, env1, g1, h1⟩
  | false => exact ⟨F1, env1, g1, h1⟩
theorem n_asg (i : Nat) {x : PySem.Str} {p : Pos} (hN : X.N.Nodup) (ha : PE X a (tE Z oa)) (hi : X.N[i]? = some x := by rfl) (hx : Loc X.env.scope x := by first | exact .inl rfl | exact .inr rfl) (hs : swapsWith a (some (.Name x p)) pos.line X.env = pure false := by rfl)
    (hf : X.fn x = true ∨ X.env.scope.names.lookup x = some .local := by first | exact .inl rfl | exact .inr rfl) : PS X (.Assign [.Name x p] a pos) (tS Z (sAsg i oa)) := by
  refine PS.imp (ps_set hN hi hx ha hs hf) fun Dn σ H ⟨F, env, g, h⟩ => ?_
  refine seqES g h fun r env1 v H1 F1 g1 x1 r1 h1 => ?_
  split at h1
  · rename_i c
    exact h1 _ H1 F1 (g1.asg r1 c) (Ex.refl F1)
  · exact h1.elim
theorem n_end : PSs X [] (tS Z sPass) := PSs.imp pss_nil fun Dn σ H ⟨F, env, g, h⟩ => h σ H F g (Ex.refl F)
theorem n_seq (h1 : PS X st (tS Z o1)) (h2 : PSs X rest (tS Z o2)) : PSs X (st :: rest) (tS Z (sSeq o1 o2)) := by
  refine PSs.imp (pss_cons h1 h2) fun Dn σ H ⟨F, env, g, h⟩ => ⟨F, env, g, ?_⟩
  unfold sSeq at h
  cases e : o1 env with
  | nx env1 =>
    rw [e] at h
    exact fun σ' H' F' g' x' => ⟨F', env1, g', PostS.up x' h⟩
  | ret r env1 => rw [e] at h; exact h
  | brk env1 => rw [e] at h; exact h
  | cnt env1 => rw [e] at h; exact h
  | exc x env1 => rw [e] at h; exact h
  | bad => rw [e] at h; exact h
theorem n_last (h1 : PS X st (tS Z o1)) : PSs X [st] (tS Z o1) := pss_one h1
theorem n_mv (i : Nat) {x : PySem.Str} {pos : Pos} (hN : X.N[i]? = some x := by rfl) (hv : Vis X.env.scope x := by first | exact Or.inl rfl | exact Or.inr (Or.inl rfl) | exact Or.inr (Or.inr rfl)) (hd : (x == ("__debug__" : PySem.Str)) = false := by decide)
    (hcd : (x == ("__classdict__" : PySem.Str)) = false := by decide) : PE X (.Name x pos) (tE Z (oMv i)) := by
  refine PE.imp (pe_var hN hv hd hcd) fun σ H Q ⟨F, env, g, h⟩ => ?_
  unfold oMv at h
  cases e : env[i]? with
  | none => rw [e] at h; exact h.elim
  | some s =>
    rw [e] at h
    cases s with
    | sh d =>
      obtain ⟨v, h1, h2⟩ := g.sh i d e
      exact ⟨v, h1, h v H F g (Ex.refl F) h2⟩
    | ow ds =>
      obtain ⟨a, vs, h1, h2, h3, h4, h5⟩ := g.ow i _ ds e rfl
      have n0 : noIo env[i]? = true := by rw [e]; rfl
      refine ⟨.ref a, h1, h (.ref a) H F (g.less n0 (.inl rfl)) (Ex.refl F) ⟨a, vs, rfl, h2, h3, h4, g.nio i ds e a h1, fun j s e1 e2 e3 => ?_⟩⟩
      rcases get_set e1 with ⟨rfl, q⟩ | ⟨ne, q⟩
      · subst q
        cases e2
      · exact g.dis i j a _ s ne e q rfl e2 h1 e3
    | no => exact h.elim
    | io ds => exact h.elim
theorem own_at {F H : Hp} {σ : L2.St} {env : Env} (g : Good Z F σ H env) {i : Nat} {ds : List D} (h : ownAt env i = some ds) : ∃ a vs, σ[i]? = some (some (.ref a)) ∧ Lr Z.G.K H a vs ∧ RepL Z.G F vs ds := by
  unfold ownAt at h
  cases e : env[i]? with
  | none => rw [e] at h; cases h
  | some s =>
    rw [e] at h
    cases s with
    | no => cases h
    | ow es =>
      cases h
      obtain ⟨a, vs, h1, h2, h3, h4, h5⟩ := g.ow i _ _ e rfl
      exact ⟨a, vs, h1, .inl (.inl h2), h4⟩
    | io es =>
      cases h
      obtain ⟨a, vs, h1, h2, h3, h4, h5⟩ := g.ow i _ _ e rfl
      exact ⟨a, vs, h1, .inl (.inl h2), h4⟩
    | sh d =>
      cases d <;> try cases h
      obtain ⟨v, h1, h2⟩ := g.sh i _ e
      cases h2 with
      | lst h3 h4 => exact ⟨_, _, h1, g.fh.lr h3, h4⟩
theorem Good.here {F H : Hp} {σ : L2.St} {env : Env} (g : Good Z F σ H env) {i : Nat} (h : FE.here env[i]? = true) : ∃ v, σ[i]? = some (some v) := by
  cases e : env[i]? with
  | none => rw [e] at h; cases h
  | some s =>
    rw [e] at h
    cases s with
    | no => cases h
    | sh d =>
      obtain ⟨v, h1, _⟩ := g.sh i d e
      exact ⟨v, h1⟩
    | ow ds =>
      obtain ⟨a, vs, h1, _⟩ := g.ow i _ _ e rfl
      exact ⟨_, h1⟩
    | io ds =>
      obtain ⟨a, vs, h1, _⟩ := g.ow i _ _ e rfl
      exact ⟨_, h1⟩
/-- xs[i], xs a name whose list may be one's own: the index first (it stores nothing at xs) -/
theorem n_ixV (i : Nat) {x : PySem.Str} {p : Pos} {b : Expr} (hb : PE X b (tE Z ob)) (hK : Z.G.K = X.K) (hN : X.N[i]? = some x := by rfl) (hv : Vis X.env.scope x := by first | exact Or.inl rfl | exact Or.inr (Or.inl rfl) | exact Or.inr (Or.inr rfl)) (hd : (x == ("__debug__" : PySem.Str)) = false := by decide)
    (hcd : (x == ("__classdict__" : PySem.Str)) = false := by decide) (hp : PlainIx b := by exact fun _ _ => rfl) : PE X (.Subscript (.Name x p) b pos) (tE Z (oIxV i ob)) := by
  refine PE.imp (pe_ix ix_seq (pe_var hN hv hd hcd) hb hp) fun σ H Q ⟨F, env, g, h⟩ => ?_
  unfold oIxV at h
  split at h
  case isFalse => exact h.elim
  rename_i hh
  have vi : ∃ v, σ[i]? = some (some v) := g.here hh
  have key : ∀ v, σ[i]? = some (some v) → tE Z ob σ H fun y H2 => rIx X.K v y H2 Q := by
    intro v hv
    refine seqE g h fun r env1 w H1 F1 g1 x1 rw1 h1 => ?_
    generalize r.fz = d at h1 rw1
    cases ho : ownAt env1 i with
    | some ds =>
      rw [ho] at h1
      cases d <;> try exact h1.elim
      rename_i k
      dsimp only at h1
      cases ha : L2.atI ds k with
      | none => rw [ha] at h1; exact h1.elim
      | some d =>
        rw [ha] at h1
        obtain ⟨a, vs, e1, e2, e3⟩ := own_at g1 ho
        rw [hv] at e1
        cases e1
        obtain ⟨u, e4, e5⟩ := e3.atI ha
        cases rw1
        rw [← hK]
        exact .inl ⟨_, _, _, _, rfl, rfl, e2.sq, e4, h1 u H1 F1 g1 (Ex.refl F1) e5⟩
    | none =>
      rw [ho] at h1
      dsimp only at h1
      cases e : env1[i]? with
      | none => rw [e] at h1; exact h1.elim
      | some s =>
        rw [e] at h1
        cases s with
        | sh d0 =>
          dsimp only at h1
          cases hz : ixF d0 d with
          | none => rw [hz] at h1; exact h1.elim
          | some z =>
            rw [hz] at h1
            obtain ⟨v2, e1, e2⟩ := g1.sh i d0 e
            rw [hv] at e1
            cases e1
            have := s_ix Z F1 σ H1 env1 v w d0 d z Q rfl g1 e2 rw1 hz h1
            rw [hK] at this
            exact this
        | no => exact h1.elim
        | ow ds => exact h1.elim
        | io ds => exact h1.elim
  obtain ⟨v, hv⟩ := vi
  exact ⟨v, hv, key v hv⟩
end
end FE

namespace FE
open PySem PySem.Spec PyProof.Rows L2

section
variable {X : Cx} {Z : Zd} {a b : Expr} {oa ob : Env → OE} {pos : Pos}
theorem own_get {env : Env} {i : Nat} {ds : List D} (h : env[i]?.bind Own = some ds) : ∃ s, env[i]? = some s ∧ Own s = some ds := by
  cases e : env[i]? with
  | none => rw [e] at h; cases h
  | some s => rw [e] at h; exact ⟨s, rfl, h⟩
/-- xs[i] = v -/
theorem n_setI (i : Nat) {x : PySem.Str} {p tp : Pos} (ha : PE X a (tE Z oa)) (hb : PE X b (tE Z ob)) (hN : X.N[i]? = some x := by rfl) (hv : Vis X.env.scope x := by first | exact Or.inl rfl | exact Or.inr (Or.inl rfl) | exact Or.inr (Or.inr rfl)) (hd : (x == ("__debug__" : PySem.Str)) = false := by decide)
    (hcd : (x == ("__classdict__" : PySem.Str)) = false := by decide)
    (hs : swapsWithSole [.Subscript (.Name x p) b tp] a pos.line X.env = pure false := by rfl) (hw : swappedStores [.Subscript (.Name x p) b tp] a X.env = pure none := by rfl)
    (h1 : (assignEach [.Subscript (.Name x p) b tp] X.env).map (·.2) = [assign (.Subscript (.Name x p) b tp) X.env] := by rfl)
    (hg : ∀ v, assign (.Subscript (.Name x p) b tp) X.env v = (do
      let ov ← holding [v] (eval (.Name x p) X.env)
      let iv ← holding [v, ov] (eval b X.env)
      standAt tp
      holding [v, ov, iv] (setItem ov iv v)
      release [v, ov, iv] []) := by intro _; rfl) : PS X (.Assign [.Subscript (.Name x p) b tp] a pos) (tS Z (sSetI i ob oa)) := by
  refine PS.imp (ps_asg ha (pg_sub (pe_var hN hv hd hcd) hb set_list hg) hs hw h1) fun Dn σ H ⟨F, env, g, h⟩ => ?_
  refine seqES g h fun rv env1 v H1 F1 g1 x1 r1 h1 => ?_
  obtain ⟨F2, g2, x2, r2⟩ := g1.give r1
  replace h1 := PostS.up x2 h1
  split at h1
  case isFalse => exact h1.elim
  rename_i hh
  obtain ⟨u, hu⟩ := g2.here hh
  refine ⟨u, hu, ?_⟩
  refine seqES g2 h1 fun ri env3 w H3 F3 g3 x3 r3 h3 => ?_
  obtain ⟨F4, g4, x4, r4⟩ := g3.give r3
  replace h3 := PostS.up x4 h3
  cases ho : env3[i]?.bind Own with
  | none => rw [ho] at h3; exact h3.elim
  | some ds =>
    rw [ho] at h3
    generalize ri.fz = d at h3 r4
    cases d <;> try exact h3.elim
    rename_i k
    dsimp only at h3
    cases hj : ixN ds.length k with
    | none => rw [hj] at h3; exact h3.elim
    | some j =>
      rw [hj] at h3
      dsimp only at h3
      cases he : setOwn env3 i (ds.set j rv.fz) with
      | none => rw [he] at h3; exact h3.elim
      | some env5 =>
        rw [he] at h3
        obtain ⟨s, e1, e2⟩ := own_get ho
        obtain ⟨a, vs, q1, q2, q3, q4, q5⟩ := g4.ow i s ds e1 e2
        rw [hu] at q1
        cases q1
        cases r4
        refine ⟨a, vs, k, j, rfl, rfl, q2, by rw [q4.length]; exact hj, ?_⟩
        exact h3 σ _ F4 (g4.wr e1 e2 hu q2 (q4.set (r2.mono (x3.trans x4)) j) he) (Ex.refl F4)
/-- xs.append(v) -/
theorem n_app (i : Nat) {x : PySem.Str} {p apos cpos : Pos} (ha : PE X a (tE Z oa)) (hN : X.N[i]? = some x := by rfl) (hv : Vis X.env.scope x := by first | exact Or.inl rfl | exact Or.inr (Or.inl rfl) | exact Or.inr (Or.inr rfl)) (hd : (x == ("__debug__" : PySem.Str)) = false := by decide)
    (hcd : (x == ("__classdict__" : PySem.Str)) = false := by decide) (hline : (apos.endLine == cpos.line) = true := by rfl) (hs : starEach [a] X.env = (false, eval a X.env) :: starEach [] X.env := by rfl)
    (hfew : ((backTo cpos (starEach [a] X.env)).all (fun x => !x.1) && (backToKw cpos (keywordEach [] X.env)).all (fun x => x.1.isSome)
      && decide ([a].length + ([] : List Keyword).length + (if ([] : List Keyword).isEmpty then 0 else 1) < 30)) = true := by rfl) :
    PS X (.Expr (.Call (.Attribute (.Name x p) "append" apos) [a] [] cpos) pos) (tS Z (sApp i oa)) := by
  refine PS.imp (ps_expr (pe_bm PySem.F.plainAttrs_list PySem.F.slot_list_append PySem.F.type_list_append mt_append (pe_var hN hv hd hcd) (pa_cons ha pa_nil hs) (hfew := hfew) (hline := hline) (hs := hs))) fun Dn σ H ⟨F, env, g, h⟩ => ?_
  unfold sApp at h
  split at h
  case isFalse => exact h.elim
  rename_i hh
  obtain ⟨ds0, hs0⟩ := Option.isSome_iff_exists.mp hh
  obtain ⟨s0, k1, k2⟩ := own_get hs0
  obtain ⟨a0, vs0, hu, k3, _⟩ := g.ow i s0 ds0 k1 k2
  refine ⟨.ref a0, hu, .inl ⟨rfl, _, .inl (.inl k3)⟩, ?_⟩
  refine seqES g h fun rv env1 v H1 F1 g1 x1 r1 h1 => ?_
  obtain ⟨F2, g2, x2, r2⟩ := g1.give r1
  replace h1 := PostS.up x2 h1
  cases ho : env1[i]?.bind Own with
  | none => rw [ho] at h1; exact h1.elim
  | some ds =>
    rw [ho] at h1
    dsimp only at h1
    split at h1
    case isFalse => exact h1.elim
    rename_i hl
    cases he : setOwn env1 i (ds ++ [rv.fz]) with
    | none => rw [he] at h1; exact h1.elim
    | some env5 =>
      rw [he] at h1
      obtain ⟨s, e1, e2⟩ := own_get ho
      obtain ⟨a, vs, q1, q2, q3, q4, q5⟩ := g2.ow i s ds e1 e2
      rw [hu] at q1
      cases q1
      refine ⟨a0, vs, v, rfl, rfl, q2, Nat.lt_of_lt_of_le (by rw [q4.length]; exact hl) big_line, ?_⟩
      exact h1 σ _ F2 (g2.wr e1 e2 hu q2 (q4.append (.single r2)) he) (Ex.refl F2)

/-! ### targets -/
def TgOk (G : Gd) (ws : List Nat) (g : TG) (f : D → Env → Option Env) : Prop := ∀ (Z : Zd) (F : Hp) (σ : L2.St) (H : Hp) (env env' : Env) (x : V) (d : D) (Q : L2.St → Hp → Prop), Z.G = G → Good Z F σ H env → Rep Z.G F x d → f d env = some env' → (∀ σ', Good Z F σ' H env' → (∀ j, j ∉ ws → σ'[j]? = σ[j]?) → σ'.length = σ.length → Q σ' H) → g x σ H Q
def gVar (i : Nat) : D → Env → Option Env := fun d env => if noIo env[i]? = true then some (env.set i (.sh d)) else none
theorem tg_var {G : Gd} {ws : List Nat} (i : Nat) (hi : i ∈ ws := by simp) : TgOk G ws (gName i) (gVar i) := by
  intro Z F σ H env env' x d Q hG g r h q
  unfold gVar at h
  split at h
  · rename_i c
    cases h
    exact q _ (g.asg (r := .sh d) r c) (fun j hj => List.getElem?_set_ne (show i ≠ j from by intro e; subst e; exact hj hi)) List.length_set
  · cases h
def gNilF : List D → Env → Option Env
  | [], env => some env
  | _ :: _, _ => none
def gConsF (f : D → Env → Option Env) (fs : List D → Env → Option Env) : List D → Env → Option Env
  | [], _ => none
  | d :: ds, env => (f d env).bind fun env1 => fs ds env1
def TgsOk (G : Gd) (ws : List Nat) (g : TGs) (f : List D → Env → Option Env) : Prop := ∀ (Z : Zd) (F : Hp) (σ : L2.St) (H : Hp) (env env' : Env) (xs : List V) (ds : List D) (Q : L2.St → Hp → Prop), Z.G = G → Good Z F σ H env → RepL Z.G F xs ds → f ds env = some env' → (∀ σ', Good Z F σ' H env' → (∀ j, j ∉ ws → σ'[j]? = σ[j]?) → σ'.length = σ.length → Q σ' H) → g xs σ H Q
theorem tgs_nil {G : Gd} {ws : List Nat} : TgsOk G ws gNil gNilF := by
  intro Z F σ H env env' xs ds Q hG g r h q
  cases ds with
  | nil =>
    cases h
    cases r
    exact ⟨rfl, q σ g (fun _ _ => rfl) rfl⟩
  | cons d ds => cases h
theorem tgs_cons {G : Gd} {ws : List Nat} {g1 : TG} {f1 : D → Env → Option Env} {g2 : TGs} {f2 : List D → Env → Option Env} (h1 : TgOk G ws g1 f1) (h2 : TgsOk G ws g2 f2) : TgsOk G ws (gCons g1 g2) (gConsF f1 f2) := by
  intro Z F σ H env env' xs ds Q hG g r h q
  cases ds with
  | nil => cases h
  | cons d ds =>
    cases r with
    | cons r1 r2 =>
      have h' : (f1 d env).bind (fun env1 => f2 ds env1) = some env' := h
      cases e : f1 d env with
      | none => rw [e] at h'; cases h'
      | some env1 =>
        rw [e] at h'
        exact ⟨_, _, rfl, h1 Z F σ H env env1 _ d _ hG g r1 e fun σ1 g1 k1 l1 => h2 Z F σ1 H env1 env' _ ds Q hG g1 r2 h' fun σ2 g2 k2 l2 => q σ2 g2 (fun j hj => (k2 j hj).trans (k1 j hj)) (l2.trans l1)⟩
def gTupF (n : Nat) (f : List D → Env → Option Env) : D → Env → Option Env := fun d env => match d with
  | .tup ds => if ds.length = n then f ds env else none
  | .wtp ds => if ds.length = n then f ds env else none
  | _ => none
theorem tg_tup {G : Gd} {ws : List Nat} {g : TGs} {f : List D → Env → Option Env} {n : Nat} (h : TgsOk G ws g f) : TgOk G ws (gTup G.K n g) (gTupF n f) := by
  intro Z F σ H env env' x d Q hG gd r e q
  subst hG
  unfold gTupF at e
  cases r <;> try cases e
  · rename_i h1 r1
    dsimp only at e
    split at e
    · rename_i c
      exact ⟨_, _, rfl, gd.fh.t h1, by rw [r1.length]; exact c, h Z F σ H env env' _ _ Q rfl gd r1 e q⟩
    · cases e
  · rename_i h1 r1
    dsimp only at e
    split at e
    · rename_i c
      exact ⟨_, _, rfl, gd.fh.t h1.t, by rw [r1.length]; exact c, h Z F σ H env env' _ _ Q rfl gd r1 e q⟩
    · cases e
end
end FE

namespace FE
open PySem PySem.Spec PyProof.Rows L2

/-! ### what a for walks -/
inductive OI where
  | ok (ds : List D) (env : Env) | exc (x : Xc) (env : Env) | bad
def OE.bindI (o : OE) (f : R → Env → OI) : OI := match o with
  | .ok r env => f r env
  | .exc x env => .exc x env
  | .bad => .bad
def OA.bindI (o : OA) (f : List D → Env → OI) : OI := match o with
  | .ok r env => f r env
  | .exc x env => .exc x env
  | .bad => .bad
def OI.bindE (o : OI) (f : List D → Env → OE) : OE := match o with
  | .ok r env => f r env
  | .exc x env => .exc x env
  | .bad => .bad
def OI.bindS (o : OI) (f : List D → Env → OS) : OS := match o with
  | .ok r env => f r env
  | .exc x env => .exc x env
  | .bad => .bad
structure ItRep (G : Gd) (J : It) (F : Hp) (ds : List D) : Prop where
  go : ∀ k F1 H1, Ex F F1 → Ex F1 H1 → k < ds.length → J.go k H1
  stop : ∀ k F1 H1, Ex F F1 → Ex F1 H1 → ds.length ≤ k → J.stop k H1
  yld : ∀ k d F1 H1 x H2, Ex F F1 → Ex F1 H1 → ds[k]? = some d → J.yld k H1 x H2 → (H2 = H1 ∧ Rep G F1 x d) ∨ ∃ T o, H1 T = none ∧ H2 = upd H1 T o ∧ Rep G (upd F1 T o) x d
def PostI (Z : Zd) (F : Hp) (σ : L2.St) (Q : It → Hp → Prop) : OI → Prop
  | .ok ds env' => ∀ J H' F', Good Z F' σ H' env' → Ex F F' → ItRep Z.G J F' ds → Q J H'
  | .exc x env' => PostX Z F σ x env'
  | .bad => False
def tI (Z : Zd) (o : Env → OI) : TI := fun σ H Q => ∃ F env, Good Z F σ H env ∧ PostI Z F σ Q (o env)
section
variable {Z : Zd} {F F' F1 H H' : Hp} {σ : L2.St} {env : Env} {Q : It → Hp → Prop} {QE : VK} {Dn : Ends}
theorem PostI.up {o : OI} (e : Ex F F1) (h : PostI Z F σ Q o) : PostI Z F1 σ Q o := by
  cases o with
  | ok r env' => exact fun v H' F' g x => h v H' F' g (e.trans x)
  | exc x env' => exact PostX.up e h
  | bad => exact h
theorem seqEI {o : Env → OE} {f : R → Env → OI} {k : VK} (g : Good Z F σ H env) (h : PostI Z F σ Q ((o env).bindI f))
    (c : ∀ r env1 v H1 F1, Good Z F1 σ H1 env1 → Ex F F1 → Rep Z.G F1 v r.fz → PostI Z F1 σ Q (f r env1) → k v H1) : tE Z o σ H k := by
  refine ⟨F, env, g, ?_⟩
  cases e : o env with
  | ok r env1 =>
    rw [e] at h
    intro v H1 F1 g1 x1 r1
    obtain ⟨F2, g2, x2, r2⟩ := g1.give r1
    exact c r env1 v H1 F2 g2 (x1.trans x2) r2 (PostI.up (x1.trans x2) h)
  | exc x env1 => rw [e] at h; exact h
  | bad => rw [e] at h; exact h
theorem seqAI {o : Env → OA} {f : List D → Env → OI} {k : List V → Hp → Prop} (g : Good Z F σ H env) (h : PostI Z F σ Q ((o env).bindI f))
    (c : ∀ ds env1 vs H1 F1, Good Z F1 σ H1 env1 → Ex F F1 → RepL Z.G F1 vs ds → PostI Z F1 σ Q (f ds env1) → k vs H1) : tA Z o σ H k := by
  refine ⟨F, env, g, ?_⟩
  cases e : o env with
  | ok r env1 =>
    rw [e] at h
    exact fun vs H1 F1 g1 x1 r1 => c r env1 vs H1 F1 g1 x1 r1 (PostI.up x1 h)
  | exc x env1 => rw [e] at h; exact h
  | bad => rw [e] at h; exact h
theorem seqIE {o : Env → OI} {f : List D → Env → OE} {k : It → Hp → Prop} (g : Good Z F σ H env) (h : PostE Z F σ QE ((o env).bindE f))
    (c : ∀ ds env1 J H1 F1, Good Z F1 σ H1 env1 → Ex F F1 → ItRep Z.G J F1 ds → PostE Z F1 σ QE (f ds env1) → k J H1) : tI Z o σ H k := by
  refine ⟨F, env, g, ?_⟩
  cases e : o env with
  | ok r env1 =>
    rw [e] at h
    exact fun vs H1 F1 g1 x1 r1 => c r env1 vs H1 F1 g1 x1 r1 (PostE.up x1 h)
  | exc x env1 => rw [e] at h; exact h
  | bad => rw [e] at h; exact h
theorem seqIS {o : Env → OI} {f : List D → Env → OS} {k : It → Hp → Prop} (g : Good Z F σ H env) (h : PostS Z F Dn ((o env).bindS f))
    (c : ∀ ds env1 J H1 F1, Good Z F1 σ H1 env1 → Ex F F1 → ItRep Z.G J F1 ds → PostS Z F1 Dn (f ds env1) → k J H1) : tI Z o σ H k := by
  refine ⟨F, env, g, ?_⟩
  cases e : o env with
  | ok r env1 =>
    rw [e] at h
    exact fun vs H1 F1 g1 x1 r1 => c r env1 vs H1 F1 g1 x1 r1 (PostS.up x1 h)
  | exc x env1 => rw [e] at h; exact PostXS.at h
  | bad => rw [e] at h; exact h
end
/-- the items of a list, a tuple, a text's signs -/
def itemsD : D → Option (List D)
  | .lst ds => some ds
  | .tup ds => some ds
  | .str x => some (x.cps.toList.map fun c => .str ⟨#[c]⟩)
  | _ => none
def iVal (oa : Env → OE) : Env → OI := fun env => (oa env).bindI fun r e1 => match itemsD r.fz with
  | some ds => .ok ds e1
  | none => .bad
def rngD (lo : Int) (n : Nat) : List D := (List.range n).map fun k => .int (lo + (k : Nat))
def iRg1 (os : Env → OA) : Env → OI := fun env => (os env).bindI fun ds e1 => match ds with
  | [.int j] => if -(2 ^ 62) ≤ j ∧ j < 2 ^ 62 then .ok (rngD 0 j.toNat) e1 else .bad
  | _ => .bad
def iRg2 (os : Env → OA) : Env → OI := fun env => (os env).bindI fun ds e1 => match ds with
  | [.int i, .int j] => if -(2 ^ 62) ≤ i ∧ i < 2 ^ 62 ∧ -(2 ^ 62) ≤ j ∧ j < 2 ^ 62 then .ok (rngD i (j - i).toNat) e1 else .bad
  | _ => .bad
def enumD (k : Nat) : List D → List D
  | [] => []
  | d :: ds => .wtp [.int (k : Nat), d] :: enumD (k + 1) ds
def iEnm (os : Env → OA) : Env → OI := fun env => (os env).bindI fun ds e1 => match ds with
  | [.lst ds] => .ok (enumD 0 ds) e1
  | _ => .bad
def zipD : List D → List D → List D
  | d :: ds, e :: es => .wtp [d, e] :: zipD ds es
  | _, _ => []
theorem rng_get {lo : Int} {n k : Nat} {d : D} (h : (rngD lo n)[k]? = some d) : d = .int (lo + (k : Nat)) := by
  unfold rngD at h
  rw [List.getElem?_map] at h
  cases e : (List.range n)[k]? with
  | none => rw [e] at h; cases h
  | some j =>
    rw [e] at h
    cases h
    obtain ⟨_, e2⟩ := List.getElem?_eq_some_iff.mp e
    rw [List.getElem_range] at e2
    rw [e2]
theorem rng_len {lo : Int} {n : Nat} : (rngD lo n).length = n := by
  unfold rngD
  rw [List.length_map, List.length_range]
theorem enum_len : ∀ (ds : List D) (k : Nat), (enumD k ds).length = ds.length
  | [], _ => rfl
  | _ :: ds, k => congrArg Nat.succ (enum_len ds (k + 1))
theorem enum_get : ∀ (ds : List D) (k j : Nat) (d : D), (enumD k ds)[j]? = some d → ∃ e, ds[j]? = some e ∧ d = .wtp [.int ((k + j : Nat) : Int), e]
  | [], _, _, _, h => by simp [enumD] at h
  | d :: ds, k, 0, x, h => by
    simp [enumD] at h
    exact ⟨d, rfl, by rw [← h]; simp⟩
  | d :: ds, k, j + 1, x, h => by
    obtain ⟨e, h1, h2⟩ := enum_get ds (k + 1) j x (by simpa [enumD] using h)
    exact ⟨e, by simpa using h1, by rw [h2]; simp only [D.wtp.injEq, List.cons.injEq, D.int.injEq]; refine ⟨by omega, trivial⟩⟩
section
variable {G : Gd} {F : Hp}
theorem it_list {a : Addr} {vs : List V} {ds : List D} (h : Lr G.K F a vs) (r : RepL G F vs ds) : ItRep G (Itl G.K a) F ds where
  go := fun k F1 H1 e1 e2 hk => by
    obtain ⟨v, hv, _⟩ := r.get (List.getElem?_eq_getElem hk)
    exact ⟨vs, v, ((e1.trans e2).lr h).sq, hv⟩
  stop := fun k F1 H1 e1 e2 hk => ⟨vs, ((e1.trans e2).lr h).sq, by rw [r.length]; exact hk⟩
  yld := fun k d F1 H1 x H2 e1 e2 hd hy => by
    obtain ⟨rfl, f⟩ := hy
    obtain ⟨v, hv, rv⟩ := r.get hd
    have := f vs ((e1.trans e2).lr h).sq
    rw [hv] at this
    cases this
    exact .inl ⟨rfl, rv.mono e1⟩
theorem it_tup {a : Addr} {vs : List V} {ds : List D} (h : SqT G.K F a vs) (r : RepL G F vs ds) : ItRep G (Itt G.K a) F ds where
  go := fun k F1 H1 e1 e2 hk => by
    obtain ⟨v, hv, _⟩ := r.get (List.getElem?_eq_getElem hk)
    exact ⟨vs, v, (e1.trans e2).t h, hv⟩
  stop := fun k F1 H1 e1 e2 hk => ⟨vs, (e1.trans e2).t h, by rw [r.length]; exact hk⟩
  yld := fun k d F1 H1 x H2 e1 e2 hd hy => by
    obtain ⟨rfl, f⟩ := hy
    obtain ⟨v, hv, rv⟩ := r.get hd
    have := f vs ((e1.trans e2).t h)
    rw [hv] at this
    cases this
    exact .inl ⟨rfl, rv.mono e1⟩
theorem it_str {x : PySem.Str} : ItRep G (Its x) F (x.cps.toList.map fun c => .str ⟨#[c]⟩) where
  go := fun k F1 H1 e1 e2 hk => by
    rw [List.length_map, Array.length_toList] at hk
    exact hk
  stop := fun k F1 H1 e1 e2 hk => by
    rw [List.length_map, Array.length_toList] at hk
    exact hk
  yld := fun k d F1 H1 v H2 e1 e2 hd hy => by
    obtain ⟨rfl, c, hc, rfl⟩ := hy
    rw [List.getElem?_map, Array.getElem?_toList, hc] at hd
    cases hd
    exact .inl ⟨rfl, .str _⟩
theorem it_rng {lo : Int} {n : Nat} : ItRep G (Itr lo n) F (rngD lo n) where
  go := fun k F1 H1 e1 e2 hk => by rw [rng_len] at hk; exact hk
  stop := fun k F1 H1 e1 e2 hk => by rw [rng_len] at hk; exact hk
  yld := fun k d F1 H1 x H2 e1 e2 hd hy => by
    obtain ⟨rfl, rfl⟩ := hy
    rw [rng_get hd]
    exact .inl ⟨rfl, .int _⟩
theorem it_enum {a : Addr} {vs : List V} {ds : List D} (h : Lr G.K F a vs) (r : RepL G F vs ds) : ItRep G (Ite G.K a) F (enumD 0 ds) where
  go := fun k F1 H1 e1 e2 hk => by
    rw [enum_len] at hk
    obtain ⟨v, hv, _⟩ := r.get (List.getElem?_eq_getElem hk)
    exact ⟨vs, v, ((e1.trans e2).lr h).sq, hv⟩
  stop := fun k F1 H1 e1 e2 hk => ⟨vs, ((e1.trans e2).lr h).sq, by rw [r.length]; rw [enum_len] at hk; exact hk⟩
  yld := fun k d F1 H1 x H2 e1 e2 hd hy => by
    obtain ⟨T, y, rfl, hT, rfl, f⟩ := hy
    obtain ⟨e, he, rfl⟩ := enum_get ds 0 k d hd
    obtain ⟨v, hv, rv⟩ := r.get he
    have := f vs ((e1.trans e2).lr h).sq
    rw [hv] at this
    cases this
    have fT : F1 T = none := by
      cases q : F1 T with
      | none => rfl
      | some o =>
        rw [e2 T o q] at hT
        cases hT
    refine .inr ⟨T, _, hT, rfl, .wtp (.inl (.inl upd_same)) (.cons ?_ (.cons ((rv.mono e1).mono (Ex.new fT)) .nil))⟩
    rw [Nat.zero_add]
    exact .int _
end
section
variable {X : Cx} {Z : Zd} {a b tg : Expr} {oa ob : Env → OE} {os : Env → OA} {p pos tpos : Pos} {elts : List Expr} {kk : Nat}
theorem n_iter (ha : PE X a (tE Z oa)) (hK : Z.G.K = X.K) : PI X tg a (tI Z (iVal oa)) := by
  refine PI.imp (PI.or (pi_list ha) (PI.or (pi_tup ha) (pi_str ha))) fun σ H Q ⟨F, env, g, h⟩ => ?_
  rw [← hK]
  have core : ∀ k : VK, (∀ r env1 v H1 F1, Good Z F1 σ H1 env1 → Ex F F1 → Rep Z.G F1 v r.fz → PostI Z F1 σ Q (match itemsD r.fz with | some ds => .ok ds env1 | none => .bad) → (oa env = .ok r env1) → k v H1) → tE Z oa σ H k := by
    intro k c
    refine ⟨F, env, g, ?_⟩
    unfold iVal at h
    cases e : oa env with
    | ok r env1 =>
      rw [e] at h
      intro v H1 F1 g1 x1 r1
      obtain ⟨F2, g2, x2, r2⟩ := g1.give r1
      exact c r env1 v H1 F2 g2 (x1.trans x2) r2 (PostI.up (x1.trans x2) h) e
    | exc x env1 => rw [e] at h; exact h
    | bad => rw [e] at h; exact h
  cases e : oa env with
  | bad =>
    unfold iVal at h
    rw [e] at h
    exact h.elim
  | exc x env1 => exact .inl (core _ fun r env1 v H1 F1 g1 x1 r1 h1 e2 => by rw [e] at e2; cases e2)
  | ok r0 env0 =>
    cases q : r0.fz with
    | lst ds =>
      refine .inl (core _ fun r env1 v H1 F1 g1 x1 r1 h1 e2 => ?_)
      rw [e] at e2
      cases e2
      rw [q] at r1 h1
      cases r1 with
      | lst l1 l2 => exact ⟨_, rfl, ⟨_, (g1.fh.lr l1).sq⟩, h1 _ H1 F1 g1 (Ex.refl F1) (it_list l1 l2)⟩
    | tup ds =>
      refine .inr (.inl (core _ fun r env1 v H1 F1 g1 x1 r1 h1 e2 => ?_))
      rw [e] at e2
      cases e2
      rw [q] at r1 h1
      cases r1 with
      | tup l1 l2 => exact ⟨_, rfl, ⟨_, g1.fh.t l1.t⟩, h1 _ H1 F1 g1 (Ex.refl F1) (it_tup l1.t l2)⟩
    | str x =>
      refine .inr (.inr (core _ fun r env1 v H1 F1 g1 x1 r1 h1 e2 => ?_))
      rw [e] at e2
      cases e2
      rw [q] at r1 h1
      cases r1
      exact ⟨_, rfl, h1 _ H1 F1 g1 (Ex.refl F1) it_str⟩
    | _ =>
      unfold iVal at h
      rw [e] at h
      dsimp only [OE.bindI] at h
      rw [q] at h
      exact h.elim
theorem n_rng1 (hm : X.mg "range" = none) (ha : PA X [a] (tA Z os)) (hg : Gl X "range" := by rfl) (hs : starEach [a] X.env = [(false, eval a X.env)] := by rfl) : PI X tg (.Call (.Name "range" p) [a] [] pos) (tI Z (iRg1 os)) := by
  refine PI.imp (pi_range1 hg hm ha hs) fun σ H Q ⟨F, env, g, h⟩ => ?_
  refine seqAI g h fun ds env1 vs H1 F1 g1 x1 r1 h1 => ?_
  split at h1
  · rename_i j
    split at h1
    · rename_i c
      obtain ⟨v, rfl, rv⟩ := r1.one
      cases rv
      exact ⟨j, rfl, c.1, c.2, h1 _ H1 F1 g1 (Ex.refl F1) it_rng⟩
    · exact h1.elim
  · exact h1.elim
theorem n_rng2 (hm : X.mg "range" = none) (ha : PA X [a, b] (tA Z os)) (hg : Gl X "range" := by rfl) (he : starEach [a, b] X.env = [(false, eval a X.env), (false, eval b X.env)] := by rfl) (he2 : starEach [b] X.env = [(false, eval b X.env)] := by rfl) : PI X tg (.Call (.Name "range" p) [a, b] [] pos) (tI Z (iRg2 os)) := by
  refine PI.imp (pi_range2 hg hm ha he he2) fun σ H Q ⟨F, env, g, h⟩ => ?_
  refine seqAI g h fun ds env1 vs H1 F1 g1 x1 r1 h1 => ?_
  split at h1
  · rename_i i j
    split at h1
    · rename_i c
      obtain ⟨v, w, rfl, rv, rw'⟩ := r1.two
      cases rv; cases rw'
      exact ⟨i, j, rfl, c, h1 _ H1 F1 g1 (Ex.refl F1) it_rng⟩
    · exact h1.elim
  · exact h1.elim
theorem n_enum (hm : X.mg "enumerate" = none) (ha : PA X [a] (tA Z os)) (hK : Z.G.K = X.K) (hg : Gl X "enumerate" := by rfl) (hs : starEach [a] X.env = [(false, eval a X.env)] := by rfl) : PI X (.Tuple elts kk tpos) (.Call (.Name "enumerate" p) [a] [] pos) (tI Z (iEnm os)) := by
  refine PI.imp (pi_enum hg hm ha hs) fun σ H Q ⟨F, env, g, h⟩ => ?_
  refine seqAI g h fun ds env1 vs H1 F1 g1 x1 r1 h1 => ?_
  split at h1
  · obtain ⟨v, rfl, rv⟩ := r1.one
    rw [← hK]
    cases rv with
    | lst l1 l2 => exact ⟨_, _, rfl, (g1.fh.lr l1).sq, h1 _ H1 F1 g1 (Ex.refl F1) (it_enum l1 l2)⟩
  · exact h1.elim
end
/-! ### for -/
def forL (g : D → Env → Option Env) (body : Env → OS) : List D → Env → OS
  | [], env => .nx env
  | d :: ds, env => match g d env with
    | none => .bad
    | some env1 => match body env1 with
      | .nx e => forL g body ds e
      | .cnt e => forL g body ds e
      | .brk e => .nx e
      | .ret r e => .ret r e
      | .exc x e => .exc x e
      | .bad => .bad
def sFor (oi : Env → OI) (g : D → Env → Option Env) (body : Env → OS) : Env → OS := fun env => (oi env).bindS fun ds e1 => forL g body ds e1
theorem n_for {X : Cx} {Z : Zd} {ws : List Nat} {tg iter : Expr} {body : List Stmt} {oi : Env → OI} {g : TG} {f : D → Env → Option Env} {ob : Env → OS} {pos : Pos} (hp : PassesOwn (model X.prog X.w) X.A X.env X.xe) (hc : X.calm = true) (hi : PI X tg iter (tI Z oi)) (hg : PG X tg g) (ht : TgOk Z.G ws g f) (hb : PSs X body (tS Z ob))
    (hs : ∀ x, foldedSetIterable iter X.env x = pure x := by intro _; rfl) : PS X (.For tg iter body [] pos) (tS Z (sFor oi f ob)) := by
  refine PS.imp (ps_for hp hc hi hg hb hs) fun Dn σ H ⟨F, env, gd, h⟩ => ?_
  refine seqIS gd h fun ds env1 J H1 F1 g1 x1 it h1 => ?_
  refine ⟨fun i m σ' H' => ∃ F2 env2, Good Z F2 σ' H' env2 ∧ Ex F1 F2 ∧ i + m = ds.length ∧ PostS Z F2 Dn (forL f ob (ds.drop i) env2), ⟨ds.length, F1, env1, g1, Ex.refl F1, by omega, h1⟩, fun i m σ' H' hw => ?_⟩
  obtain ⟨F2, env2, g2, x2, hm, h2⟩ := hw
  by_cases hi : i < ds.length
  · have hd : ds[i]? = some ds[i] := List.getElem?_eq_getElem hi
    rw [List.drop_eq_getElem_cons hi] at h2
    generalize hdd : ds[i] = d at h2
    rw [hdd] at hd
    unfold forL at h2
    cases eg : f d env2 with
    | none => rw [eg] at h2; exact h2.elim
    | some env3 =>
      rw [eg] at h2
      dsimp only at h2
      refine .inr ⟨it.go i F2 H' x2 g2.fh hi, fun σ'' H'' => ∃ F3 env4, Good Z F3 σ'' H'' env4 ∧ Ex F1 F3 ∧ PostS Z F3 Dn (forL f ob (ds.drop (i + 1)) env4), fun σ'' H'' hN => ?_, fun x H'' hy => ?_⟩
      · obtain ⟨F3, env4, g3, x3, h3⟩ := hN
        exact ⟨m - 1, by omega, F3, env4, g3, x3, by omega, h3⟩
      · have run : ∀ F4 σ4, Good Z F4 σ4 H'' env3 → Ex F2 F4 → tS Z ob { Dn with nx := fun σ'' H'' => ∃ F3 env4, Good Z F3 σ'' H'' env4 ∧ Ex F1 F3 ∧ PostS Z F3 Dn (forL f ob (ds.drop (i + 1)) env4), ct := fun σ'' H'' => ∃ F3 env4, Good Z F3 σ'' H'' env4 ∧ Ex F1 F3 ∧ PostS Z F3 Dn (forL f ob (ds.drop (i + 1)) env4), bk := Dn.nx } σ4 H'' := by
          intro F4 σ4 g4 x4
          refine ⟨F4, env3, g4, ?_⟩
          replace h2 := PostS.up x4 h2
          cases eb : ob env3 with
          | nx e =>
            rw [eb] at h2
            exact fun σ5 H5 F5 g5 x5 => ⟨F5, e, g5, (x2.trans x4).trans x5, PostS.up x5 h2⟩
          | cnt e =>
            rw [eb] at h2
            exact fun σ5 H5 F5 g5 x5 => ⟨F5, e, g5, (x2.trans x4).trans x5, PostS.up x5 h2⟩
          | brk e => rw [eb] at h2; exact h2
          | ret r e => rw [eb] at h2; exact h2
          | exc x e => rw [eb] at h2; exact h2
          | bad => rw [eb] at h2; exact h2
        rcases it.yld i d F2 H' x H'' x2 g2.fh hd hy with ⟨rfl, rx⟩ | ⟨T, o, hT, rfl, rx⟩
        · exact ht Z F2 σ' H'' env2 env3 x d _ rfl g2 rx eg fun σ4 g4 _ _ => run F2 σ4 g4 (Ex.refl F2)
        · exact ht Z _ σ' _ env2 env3 x d _ rfl (g2.layF hT) rx eg fun σ4 g4 _ _ => run _ σ4 g4 (Ex.new (g2.fresh hT))
  · rw [List.drop_of_length_le (by omega)] at h2
    exact .inl ⟨it.stop i F2 H' x2 g2.fh (by omega), h2 σ' H' F2 g2 (Ex.refl F2)⟩
/-! ### while, by a bound -/
def whL (n : Nat) (ot : Env → OT) (ob : Env → OS) (env : Env) : OS := match n with
  | 0 => .bad
  | n + 1 => (ot env).bindS fun b e1 => if b = true then match ob e1 with
      | .nx e => whL n ot ob e
      | .cnt e => whL n ot ob e
      | .brk e => .nx e
      | .ret r e => .ret r e
      | .exc x e => .exc x e
      | .bad => .bad
    else .nx e1
def sWhile (n : Nat) (ot : Env → OT) (ob : Env → OS) : Env → OS := fun env => whL n ot ob env
theorem n_while (n : Nat) {X : Cx} {Z : Zd} {c : Expr} {body : List Stmt} {ot : Env → OT} {ob : Env → OS} {pos : Pos} (hp : PassesOwn (model X.prog X.w) X.A X.env X.xe) (hc : PT X c (tT Z ot)) (hb : PSs X body (tS Z ob)) : PS X (.While c body [] pos) (tS Z (sWhile n ot ob)) := by
  refine PS.imp (ps_while hp hc hb) fun Dn σ H ⟨F, env, g, h⟩ => ?_
  refine ⟨fun m σ' H' => ∃ F1 env1, Good Z F1 σ' H' env1 ∧ PostS Z F1 Dn (whL m ot ob env1), ⟨n, F, env, g, h⟩, fun m σ' H' hw => ?_⟩
  obtain ⟨F1, env1, g1, h1⟩ := hw
  cases m with
  | zero => exact h1.elim
  | succ m =>
    unfold whL at h1
    refine seqTS g1 h1 fun b env2 H2 F2 g2 x2 h2 => ?_
    cases b with
    | false =>
      show Dn.nx σ' H2
      exact h2 σ' H2 F2 g2 (Ex.refl F2)
    | true =>
      rw [if_pos rfl] at h2
      rw [if_pos rfl]
      refine ⟨fun σ'' H'' => ∃ F1 env1, Good Z F1 σ'' H'' env1 ∧ PostS Z F1 Dn (whL m ot ob env1), fun σ'' H'' hN => ⟨m, Nat.lt_succ_self m, hN⟩, F2, env2, g2, ?_⟩
      cases eb : ob env2 with
      | nx e =>
        rw [eb] at h2
        exact fun σ5 H5 F5 g5 x5 => ⟨F5, e, g5, PostS.up x5 h2⟩
      | cnt e =>
        rw [eb] at h2
        exact fun σ5 H5 F5 g5 x5 => ⟨F5, e, g5, PostS.up x5 h2⟩
      | brk e => rw [eb] at h2; exact h2
      | ret r e => rw [eb] at h2; exact h2
      | exc x e => rw [eb] at h2; exact h2
      | bad => rw [eb] at h2; exact h2
end FE

namespace FE
open PySem PySem.Spec PyProof.Rows L2

/-! ### a part that is walked apart: what stands stays -/
def OwnedAt (σ : L2.St) (env : Env) (a : Addr) : Prop := ∃ (i : Nat) (s : SV), env[i]? = some s ∧ (Own s).isSome = true ∧ σ[i]? = some (some (.ref a))
open Classical in
noncomputable def hideO (σ : L2.St) (env : Env) (H : Hp) : Hp := fun a => if OwnedAt σ env a then none else H a
noncomputable def Zd.apart (Z : Zd) (F : Hp) (σ : L2.St) (H : Hp) (env : Env) : Zd := { Z with F0 := F, H0 := hideO σ env H, W := fun _ _ _ _ => False }
section
variable {Z : Zd} {F F' H H' : Hp} {σ : L2.St} {env env' : Env}
theorem hideO_some {a : Addr} {o : HO} (h : hideO σ env H a = some o) : H a = some o ∧ ¬ OwnedAt σ env a := by
  unfold hideO at h
  split at h
  · cases h
  · rename_i c
    exact ⟨h, c⟩
theorem hideO_keep {a : Addr} {o : HO} (h : H a = some o) (n : ¬ OwnedAt σ env a) : hideO σ env H a = some o := by
  unfold hideO
  rw [if_neg n]
  exact h
theorem hideO_none {a : Addr} (h : hideO σ env H a = none) : H a = none ∨ OwnedAt σ env a := by
  unfold hideO at h
  split at h
  · rename_i c
    exact .inr c
  · exact .inl h
theorem hideO_own {a : Addr} (h : OwnedAt σ env a) : hideO σ env H a = none := by
  unfold hideO
  rw [if_pos h]
theorem Good.apart (g : Good Z F σ H env) : Good (Z.apart F σ H env) F σ H env where
  ff := Ex.refl F
  fh := g.fh
  keep := fun a o e _ => (hideO_some e).1
  new := fun a o e n => by
    have n' : F a = none := n
    rw [n'] at e
    cases e
  len := g.len
  sh := g.sh
  ow := fun i s ds e1 e2 => by
    obtain ⟨a, vs, h1, h2, h3, h4, h5⟩ := g.ow i s ds e1 e2
    exact ⟨a, vs, h1, h2, h3, h4, .inr (hideO_own ⟨i, s, e1, by rw [e2]; rfl, h1⟩)⟩
  io := g.io
  nio := fun i ds e a ea => hideO_own ⟨i, _, e, rfl, ea⟩
  pa := g.pa
  dis := g.dis
theorem Good.ownNone (g : Good Z F σ H env) {a : Addr} (h : OwnedAt σ env a) : a ∈ Z.ps ∨ Z.H0 a = none := by
  obtain ⟨i, s, e1, e2, e3⟩ := h
  cases q : Own s with
  | none => rw [q] at e2; cases e2
  | some ds =>
    obtain ⟨b, vs, h1, _, _, _, h5⟩ := g.ow i s ds e1 q
    rw [e3] at h1
    cases h1
    exact h5
theorem Good.back (g : Good Z F σ H env) (g' : Good (Z.apart F σ H env) F' σ H' env') : Good Z F' σ H' env' where
  ff := g.ff.trans g'.ff
  fh := g'.fh
  keep := fun a o e n => by
    refine g'.keep a o (hideO_keep (g.keep a o e n) fun q => ?_) n
    rcases g.ownNone q with q | q
    · exact n q
    · rw [q] at e
      cases e
  new := fun a o e n => by
    cases q : F a with
    | some u => exact g.new a u q n
    | none =>
      rcases hideO_none (g'.new a o e q) with z | z
      · exact g.fresh0 z
      · rcases g.ownNone z with z | z
        · obtain ⟨i, ds, e1, e2⟩ := g'.pa a z
          obtain ⟨b, vs, h1, _, h3, _⟩ := g'.ow i _ _ e1 rfl
          rw [e2] at h1
          cases h1
          rw [e] at h3
          cases h3
        · exact z
  len := g'.len
  sh := g'.sh
  ow := fun i s ds e1 e2 => by
    obtain ⟨a, vs, h1, h2, h3, h4, h5⟩ := g'.ow i s ds e1 e2
    refine ⟨a, vs, h1, h2, h3, h4, ?_⟩
    rcases h5 with h5 | h5
    · exact .inl h5
    · rcases hideO_none h5 with z | z
      · exact .inr (g.fresh0 z)
      · exact g.ownNone z
  io := g'.io
  nio := fun i ds e a ea => by
    rcases hideO_none (g'.nio i ds e a ea) with z | z
    · exact g.fresh0 z
    · rcases g.ownNone z with z | z
      · obtain ⟨j, es, e1, e2⟩ := g'.pa a z
        have ne : i ≠ j := fun q => by
          subst q
          rw [e] at e1
          cases e1
        exact absurd e2 (g'.dis i j a _ _ ne e e1 rfl rfl ea)
      · exact z
  pa := g'.pa
  dis := g'.dis
/-- what stood and was nobody's own stands, and is nobody's own -/
theorem Good.stood {σ' : L2.St} (g' : Good (Z.apart F σ H env) F' σ' H' env') {a : Addr} {o : HO} (h : H a = some o) (n : ¬ OwnedAt σ env a) (np : a ∉ Z.ps) : H' a = some o :=
  g'.keep a o (hideO_keep h n) np
theorem Good.other (g : Good Z F σ H env) {a : Addr} {o : HO} (hF : F a = none) (h0 : Z.H0 a = none) (n : ¬ OwnedAt σ env a) : Good Z F σ (upd H a o) env where
  ff := g.ff
  fh := fun b u e => by
    have ne : b ≠ a := fun q => by
      subst q
      rw [hF] at e
      cases e
    rw [upd_ne ne]
    exact g.fh b u e
  keep := fun b u e m => by
    have ne : b ≠ a := fun q => by
      subst q
      rw [h0] at e
      cases e
    rw [upd_ne ne]
    exact g.keep b u e m
  new := g.new
  len := g.len
  sh := g.sh
  ow := fun i s ds e1 e2 => by
    obtain ⟨b, vs, h1, h2, h3, h4, h5⟩ := g.ow i s ds e1 e2
    have ne : b ≠ a := fun q => by
      subst q
      exact n ⟨i, s, e1, by rw [e2]; rfl, h1⟩
    exact ⟨b, vs, h1, by rw [upd_ne ne]; exact h2, h3, h4, h5⟩
  io := g.io
  nio := g.nio
  pa := g.pa
  dis := g.dis
/-- a slot is emptied -/
theorem Good.wipe1 (g : Good Z F σ H env) {v : Nat} (hv : noIo env[v]? = true) : Good Z F (σ.set v none) H (env.set v .no) where
  ff := g.ff
  fh := g.fh
  keep := g.keep
  new := g.new
  len := by rw [List.length_set, List.length_set]; exact g.len
  sh := fun j d e => by
    rcases get_set e with ⟨rfl, e2⟩ | ⟨ne, e2⟩
    · cases e2
    · obtain ⟨w, h1, h2⟩ := g.sh j d e2
      exact ⟨w, by rw [List.getElem?_set_ne ne]; exact h1, h2⟩
  ow := fun j s ds e eo => by
    rcases get_set e with ⟨rfl, e2⟩ | ⟨ne, e2⟩
    · subst e2
      cases eo
    · obtain ⟨a, vs, h1, h2⟩ := g.ow j s ds e2 eo
      exact ⟨a, vs, by rw [List.getElem?_set_ne ne]; exact h1, h2⟩
  io := fun j ds e => by
    rcases get_set e with ⟨rfl, e2⟩ | ⟨ne, e2⟩
    · cases e2
    · obtain ⟨a, h1, h2⟩ := g.io j ds e2
      exact ⟨a, by rw [List.getElem?_set_ne ne]; exact h1, h2⟩
  nio := fun j ds e a ea => by
    rcases get_set e with ⟨rfl, e2⟩ | ⟨ne, e2⟩
    · cases e2
    · rw [List.getElem?_set_ne ne] at ea
      exact g.nio j ds e2 a ea
  pa := fun a ha => by
    obtain ⟨j, ds, e1, e2⟩ := g.pa a ha
    have ne : v ≠ j := fun q => by
      subst q
      rw [e1] at hv
      cases hv
    exact ⟨j, ds, by rw [List.getElem?_set_ne ne]; exact e1, by rw [List.getElem?_set_ne ne]; exact e2⟩
  dis := fun j k a s t njk ej ek sj sk hj => by
    rcases get_set ej with ⟨rfl, e1⟩ | ⟨n1, e1⟩
    · subst e1
      cases sj
    · rw [List.getElem?_set_ne n1] at hj
      rcases get_set ek with ⟨rfl, e2⟩ | ⟨n2, e2⟩
      · subst e2
        cases sk
      · rw [List.getElem?_set_ne n2]
        exact g.dis j k a s t njk e1 e2 sj sk hj
/-- a slot stands again as it stood -/
theorem Good.rest1 {v : Nat} {s : SV} (g : Good Z F (σ.set v none) H env) (hv : noIo env[v]? = true) (hs : s = .no ∨ ∃ d x, s = .sh d ∧ σ[v]? = some (some x) ∧ Rep Z.G F x d) : Good Z F σ H (env.set v s) where
  ff := g.ff
  fh := g.fh
  keep := g.keep
  new := g.new
  len := by
    have := g.len
    rw [List.length_set] at this
    rw [List.length_set]
    exact this
  sh := fun j d e => by
    rcases get_set e with ⟨rfl, e2⟩ | ⟨ne, e2⟩
    · rcases hs with rfl | ⟨d', x, rfl, h1, h2⟩
      · cases e2
      · cases e2
        exact ⟨x, h1, h2⟩
    · obtain ⟨w, h1, h2⟩ := g.sh j d e2
      rw [List.getElem?_set_ne ne] at h1
      exact ⟨w, h1, h2⟩
  ow := fun j t ds e eo => by
    rcases get_set e with ⟨rfl, e2⟩ | ⟨ne, e2⟩
    · subst e2
      rcases hs with rfl | ⟨d', x, rfl, h1, h2⟩ <;> cases eo
    · obtain ⟨a, vs, h1, h2⟩ := g.ow j t ds e2 eo
      rw [List.getElem?_set_ne ne] at h1
      exact ⟨a, vs, h1, h2⟩
  io := fun j ds e => by
    rcases get_set e with ⟨rfl, e2⟩ | ⟨ne, e2⟩
    · rcases hs with rfl | ⟨d', x, rfl, h1, h2⟩ <;> cases e2
    · obtain ⟨a, h1, h2⟩ := g.io j ds e2
      rw [List.getElem?_set_ne ne] at h1
      exact ⟨a, h1, h2⟩
  nio := fun j ds e a ea => by
    rcases get_set e with ⟨rfl, e2⟩ | ⟨ne, e2⟩
    · rcases hs with rfl | ⟨d', x, rfl, h1, h2⟩ <;> cases e2
    · refine g.nio j ds e2 a ?_
      rw [List.getElem?_set_ne ne]
      exact ea
  pa := fun a ha => by
    obtain ⟨j, ds, e1, e2⟩ := g.pa a ha
    have ne : v ≠ j := fun q => by
      subst q
      rw [e1] at hv
      cases hv
    rw [List.getElem?_set_ne ne] at e2
    exact ⟨j, ds, by rw [List.getElem?_set_ne ne]; exact e1, e2⟩
  dis := fun j k a t u njk ej ek sj sk hj hk => by
    rcases get_set ej with ⟨rfl, e1⟩ | ⟨n1, e1⟩
    · subst e1
      rcases hs with rfl | ⟨d', x, rfl, h1, h2⟩ <;> cases sj
    · rcases get_set ek with ⟨rfl, e2⟩ | ⟨n2, e2⟩
      · subst e2
        rcases hs with rfl | ⟨d', x, rfl, h1, h2⟩ <;> cases sk
      · exact g.dis j k a t u njk e1 e2 sj sk (by rw [List.getElem?_set_ne n1]; exact hj) (by rw [List.getElem?_set_ne n2]; exact hk)
end
/-! ### comprehensions -/
def wipeE (env : Env) : List Nat → Env
  | [] => env
  | v :: vs => (wipeE env vs).set v .no
def okW (env : Env) (v : Nat) : Bool := match env[v]? with
  | some .no => true
  | some (.sh _) => true
  | _ => false
def restE (e1 e2 : Env) : List Nat → Env
  | [] => e2
  | v :: vs => restE e1 (e2.set v (e1.getD v .no)) vs
def lcL (f : D → Env → Option Env) (ot : Env → OT) (oe : Env → OE) (ws : List Nat) : List D → Env → List D → Option (List D × Env)
  | [], env, acc => some (acc, env)
  | d :: ds, env, acc => match f d env with
    | none => none
    | some e1 => match ot e1 with
      | .ok true e2 => match oe e2 with
        | .ok r e3 => if ws.all (fun v => noIo e3[v]?) = true ∧ acc.length < 1000000 then lcL f ot oe ws ds (wipeE e3 ws) (acc ++ [r.fz]) else none
        | _ => none
      | .ok false e2 => if ws.all (fun v => noIo e2[v]?) = true then lcL f ot oe ws ds (wipeE e2 ws) acc else none
      | _ => none
def oLc (oi : Env → OI) (f : D → Env → Option Env) (ot : Env → OT) (oe : Env → OE) (ws : List Nat) : Env → OE := fun env => (oi env).bindE fun ds e1 =>
  if ws.all (okW e1) = true then match lcL f ot oe ws ds (wipeE e1 ws) [] with
    | some (acc, e2) => if ws.all (fun v => noIo e2[v]?) = true then .ok (.ow acc) (restE e1 e2 ws) else .bad
    | none => .bad
  else .bad
section
variable {Z : Zd} {F F' H H' : Hp} {σ : L2.St} {env env' : Env}
theorem wipe_get : ∀ (vs : List Nat) (j : Nat), (wipe σ vs)[j]? = if j ∈ vs ∧ j < σ.length then some none else σ[j]?
  | [], j => by simp [wipe]
  | v :: vs, j => by
    unfold wipe
    by_cases h : v = j
    · subst h
      by_cases hl : v < σ.length
      · rw [List.getElem?_set_self (by rw [wipe_length]; exact hl), if_pos ⟨List.mem_cons_self, hl⟩]
      · rw [List.getElem?_eq_none (by rw [List.length_set, wipe_length]; omega), if_neg (fun q => hl q.2), List.getElem?_eq_none (by omega)]
    · rw [List.getElem?_set_ne h, wipe_get vs j]
      have : (j ∈ v :: vs ∧ j < σ.length) ↔ (j ∈ vs ∧ j < σ.length) := by
        rw [List.mem_cons]
        constructor
        · rintro ⟨q | q, l⟩
          · exact absurd q.symm h
          · exact ⟨q, l⟩
        · rintro ⟨q, l⟩
          exact ⟨.inr q, l⟩
      simp only [this]
theorem wipe_ext {σ' : L2.St} {vs : List Nat} (h : ∀ j, j ∉ vs → σ'[j]? = (wipe σ vs)[j]?) (hl : σ'.length = σ.length) : wipe σ' vs = wipe σ vs := by
  apply List.ext_getElem?
  intro j
  rw [wipe_get, wipe_get, hl]
  by_cases c : j ∈ vs ∧ j < σ.length
  · rw [if_pos c, if_pos c]
  · rw [if_neg c, if_neg c]
    by_cases m : j ∈ vs
    · have : σ.length ≤ j := by
        rcases Nat.lt_or_ge j σ.length with q | q
        · exact absurd ⟨m, q⟩ c
        · exact q
      rw [List.getElem?_eq_none this, List.getElem?_eq_none (by omega)]
    · rw [h j m, wipe_get, if_neg c]
theorem noIo_set {l : Env} {i j : Nat} {s : SV} (h : noIo l[j]? = true) (hs : noIo (some s) = true) : noIo (l.set i s)[j]? = true := by
  by_cases e : i = j
  · subst e
    by_cases hl : i < l.length
    · rw [List.getElem?_set_self hl]; exact hs
    · rw [List.getElem?_eq_none (by rw [List.length_set]; omega)]; rfl
  · rw [List.getElem?_set_ne e]; exact h
theorem noIo_wipeE : ∀ {vs : List Nat} {j : Nat}, noIo env[j]? = true → noIo (wipeE env vs)[j]? = true
  | [], _, h => h
  | _ :: vs, _, h => noIo_set (noIo_wipeE (vs := vs) h) rfl
theorem Good.wipes (g : Good Z F σ H env) : ∀ {vs : List Nat}, (∀ v ∈ vs, noIo env[v]? = true) → Good Z F (wipe σ vs) H (wipeE env vs)
  | [], _ => g
  | v :: vs, h => (Good.wipes g fun w hw => h w (List.mem_cons_of_mem _ hw)).wipe1 (noIo_wipeE (h v List.mem_cons_self))
/-- the slots as they stood -/
theorem Good.rests {e1 : Env} {F1 : Hp} {H1 : Hp} (g0 : Good Z F1 σ H1 e1) (x : Ex F1 F) : ∀ {vs : List Nat} {env : Env}, Good Z F (wipe σ vs) H env → vs.Nodup → (∀ v ∈ vs, okW e1 v = true) → (∀ v ∈ vs, noIo env[v]? = true) → Good Z F σ H (restE e1 env vs)
  | [], _, g, _, _, _ => g
  | v :: vs, env, g, nd, ok, no => by
    have nv : v ∉ vs := (List.nodup_cons.mp nd).1
    have hs : e1.getD v .no = .no ∨ ∃ d y, e1.getD v .no = .sh d ∧ (wipe σ vs)[v]? = some (some y) ∧ Rep Z.G F y d := by
      have o := ok v List.mem_cons_self
      unfold okW at o
      rw [List.getD_eq_getElem?_getD]
      cases q : e1[v]? with
      | none => rw [q] at o; cases o
      | some s =>
        rw [q] at o
        cases s with
        | no => exact .inl rfl
        | sh d =>
          obtain ⟨y, h1, h2⟩ := g0.sh v d q
          refine .inr ⟨d, y, rfl, ?_, h2.mono x⟩
          rw [wipe_get, if_neg (fun c => nv c.1)]
          exact h1
        | ow ds => cases o
        | io ds => cases o
    have g2 : Good Z F (wipe σ vs) H (env.set v (e1.getD v .no)) := Good.rest1 (σ := wipe σ vs) g (no v List.mem_cons_self) hs
    refine Good.rests (vs := vs) g0 x g2 (List.nodup_cons.mp nd).2 (fun w hw => ok w (List.mem_cons_of_mem _ hw)) fun w hw => noIo_set (no w (List.mem_cons_of_mem _ hw)) ?_
    rcases hs with q | ⟨d, y, q, _⟩ <;> rw [q] <;> rfl
theorem restE_own {e1 : Env} : ∀ {vs : List Nat} {env : Env} {i : Nat} {s : SV}, (∀ v ∈ vs, okW e1 v = true) → (restE e1 env vs)[i]? = some s → (Own s).isSome = true → env[i]? = some s ∧ i ∉ vs
  | [], _, _, _, _, h, _ => ⟨h, by simp⟩
  | v :: vs, env, i, s, ok, h, o => by
    obtain ⟨h1, h2⟩ := restE_own (vs := vs) (fun w hw => ok w (List.mem_cons_of_mem _ hw)) h o
    rcases get_set h1 with ⟨rfl, q⟩ | ⟨ne, q⟩
    · exfalso
      have ok1 := ok v List.mem_cons_self
      unfold okW at ok1
      rw [List.getD_eq_getElem?_getD] at q
      cases z : e1[v]? with
      | none => rw [z] at ok1; cases ok1
      | some t =>
        rw [z] at ok1 q
        cases t with
        | no => rw [show s = SV.no from q] at o; cases o
        | sh d => rw [show s = SV.sh d from q] at o; cases o
        | ow ds => cases ok1
        | io ds => cases ok1
    · exact ⟨q, fun m => (List.mem_cons.mp m).elim (fun e => ne e.symm) h2⟩
end
end FE

namespace FE
open PySem PySem.Spec PyProof.Rows L2

abbrev CZ := PySem.Str → Value → Prop
def Zq (G : Gd) (C : CZ) (Z' : Zd) : Prop := Z'.G = G ∧ Z'.C = C ∧ Z'.W = fun _ _ _ _ => False
def tTx (G : Gd) (C : CZ) (o : Env → OT) : TT := fun σ H Q => ∃ Z', Zq G C Z' ∧ tT Z' o σ H Q
def tEx (G : Gd) (C : CZ) (o : Env → OE) : TE := fun σ H Q => ∃ Z', Zq G C Z' ∧ tE Z' o σ H Q
theorem takesQ {X : Cx} {G : Gd} {C : CZ} {Z : Zd} (q : Zq G C Z) : Takes X Z.W := by
  rw [q.2.2]
  exact takes0
def oYes : Env → OT := fun env => .ok true env
theorem lc_to {Z : Zd} {oi : Env → OI} {g : TG} {f : D → Env → Option Env} {ot : Env → OT} {oe : Env → OE} {ws : List Nat} (ht : TgOk Z.G ws g f) (nd : ws.Nodup) {σ : L2.St} {H : Hp} {Q : VK} (h : tE Z (oLc oi f ot oe ws) σ H Q) :
    tLc (tI Z oi) g (tTx Z.G Z.C ot) (tEx Z.G Z.C oe) ws σ H Q := by
  obtain ⟨F, env, g0, h⟩ := h
  refine seqIE g0 h fun ds env1 J H1 F1 g1 x1 it h1 => ?_
  split at h1
  case isFalse => exact h1.elim
  rename_i cw
  have okw : ∀ v ∈ ws, okW env1 v = true := by simpa using cw
  have noio : ∀ v ∈ ws, noIo env1[v]? = true := fun v hv => by
    have o := okw v hv
    unfold okW at o
    cases q : env1[v]? with
    | none => rfl
    | some s =>
      rw [q] at o
      cases s <;> first | rfl | cases o
  intro L hL
  cases er : lcL f ot oe ws ds (wipeE env1 ws) [] with
  | none => rw [er] at h1; exact h1.elim
  | some pr =>
    obtain ⟨accF, eF⟩ := pr
    rw [er] at h1
    dsimp only at h1
    split at h1
    case isFalse => exact h1.elim
    rename_i cF
    have noF : ∀ v ∈ ws, noIo eF[v]? = true := by simpa using cF
    have g2 := (g1.lay (o := .lst []) hL).wipes noio
    have Z0L : Z.H0 L = none := g1.fresh0 hL
    have nps : L ∉ Z.ps := g1.nps hL
    refine ⟨fun i m H' => ∃ F2 env2 vacc acc, Good Z F2 (wipe σ ws) H' env2 ∧ Ex F1 F2 ∧ i + m = ds.length ∧ H' L = some (.lst vacc) ∧ F2 L = none ∧ RepL Z.G F2 vacc acc ∧ ¬ OwnedAt (wipe σ ws) env2 L ∧
      lcL f ot oe ws (ds.drop i) env2 acc = some (accF, eF), ⟨ds.length, F1, _, [], [], g2, Ex.refl F1, by omega, upd_same, g1.fresh hL, .nil, ?_, er⟩, fun i m H' hw => ?_⟩
    · rintro ⟨i, s, e1, e2, e3⟩
      cases q : Own s with
      | none => rw [q] at e2; cases e2
      | some es =>
        -- an own list of the wiped slots is one of before
        have back : ∀ {vs : List Nat}, (wipeE env1 vs)[i]? = some s → env1[i]? = some s := by
          intro vs
          induction vs with
          | nil => exact id
          | cons v vs ih =>
            intro h
            rcases get_set h with ⟨rfl, z⟩ | ⟨_, z⟩
            · subst z
              cases q
            · exact ih z
        have e4 := back e1
        obtain ⟨a, vs, k1, k2, _⟩ := g1.ow i s es e4 q
        have e5 := (wipe_some e3).1
        rw [e5] at k1
        cases k1
        rw [hL] at k2
        cases k2
    obtain ⟨F2, env2, vacc, acc, g3, x2, hm, hLc, hFL, racc, nL, h2⟩ := hw
    by_cases hi : i < ds.length
    · have hd : ds[i]? = some ds[i] := List.getElem?_eq_getElem hi
      rw [List.drop_eq_getElem_cons hi] at h2
      generalize hdd : ds[i] = d at h2
      rw [hdd] at hd
      refine .inr ⟨it.go i F2 H' x2 g3.fh hi, fun H'' => ∃ m', m' < m ∧ (∃ F2 env2 vacc acc, Good Z F2 (wipe σ ws) H'' env2 ∧ Ex F1 F2 ∧ (i + 1) + m' = ds.length ∧ H'' L = some (.lst vacc) ∧ F2 L = none ∧ RepL Z.G F2 vacc acc ∧ ¬ OwnedAt (wipe σ ws) env2 L ∧
        lcL f ot oe ws (ds.drop (i + 1)) env2 acc = some (accF, eF)), fun H'' hN => hN, fun x H'' hy => ?_⟩
      unfold lcL at h2
      cases eg : f d env2 with
      | none => rw [eg] at h2; cases h2
      | some env3 =>
        rw [eg] at h2
        dsimp only at h2
        -- the turn, apart from what stands
        have ga := g3.apart
        have turn : ∀ F4 H4, Good (Z.apart F2 (wipe σ ws) H' env2) F4 (wipe σ ws) H4 env2 → Ex F2 F4 → Rep Z.G F4 x d → g x (wipe σ ws) H4 fun σ2 H2 => wipe σ2 ws = wipe σ ws ∧ tTx Z.G Z.C ot σ2 H2 fun b H3 =>
            if b = true then tEx Z.G Z.C oe σ2 H3 fun y H4 => ∃ acc, H4 L = some (.lst acc) ∧ acc.length < sizeLine ∧ (∃ m', m' < m ∧ (∃ F2 env2 vacc acc', Good Z F2 (wipe σ ws) (upd H4 L (.lst (acc ++ [y]))) env2 ∧ Ex F1 F2 ∧ (i + 1) + m' = ds.length ∧ upd H4 L (.lst (acc ++ [y])) L = some (.lst vacc) ∧ F2 L = none ∧ RepL Z.G F2 vacc acc' ∧ ¬ OwnedAt (wipe σ ws) env2 L ∧
              lcL f ot oe ws (ds.drop (i + 1)) env2 acc' = some (accF, eF)))
            else (∃ m', m' < m ∧ (∃ F2 env2 vacc acc, Good Z F2 (wipe σ ws) H3 env2 ∧ Ex F1 F2 ∧ (i + 1) + m' = ds.length ∧ H3 L = some (.lst vacc) ∧ F2 L = none ∧ RepL Z.G F2 vacc acc ∧ ¬ OwnedAt (wipe σ ws) env2 L ∧
              lcL f ot oe ws (ds.drop (i + 1)) env2 acc = some (accF, eF))) := by
          intro F4 H4 g4 x4 r4
          refine ht (Z.apart F2 (wipe σ ws) H' env2) F4 (wipe σ ws) H4 env2 env3 x d _ rfl g4 r4 eg fun σ2 g5 k5 l5 => ?_
          have ws2 : wipe σ2 ws = wipe σ ws := wipe_ext k5 (by rw [l5, wipe_length])
          have kept : hideO (wipe σ ws) env2 H' L = some (.lst vacc) := hideO_keep hLc nL
          -- the state behind the turn
          have fin : ∀ F8 H7 e3, Good (Z.apart F2 (wipe σ ws) H' env2) F8 σ2 H7 e3 → Ex F4 F8 → ws.all (fun v => noIo e3[v]?) = true → Good Z F8 (wipe σ ws) H7 (wipeE e3 ws) ∧ Ex F1 F8 ∧ H7 L = some (.lst vacc) ∧ F8 L = none ∧ RepL Z.G F8 vacc acc ∧ ¬ OwnedAt (wipe σ ws) (wipeE e3 ws) L := by
            intro F8 H7 e3 g8 x8 c8
            have g9 := g8.wipes (vs := ws) (by simpa using c8)
            rw [ws2] at g9
            refine ⟨g3.back g9, x2.trans (x4.trans x8), g8.stood hLc nL nps, ?_, racc.mono (x4.trans x8), fun q => ?_⟩
            · cases q : F8 L with
              | none => rfl
              | some o =>
                have z : hideO (wipe σ ws) env2 H' L = none := g8.new L o q hFL
                rw [kept] at z
                cases z
            · rcases g9.ownNone q with z | z
              · exact nps z
              · have z' : hideO (wipe σ ws) env2 H' L = none := z
                rw [kept] at z'
                cases z'
          refine ⟨ws2, Z.apart F2 (wipe σ ws) H' env2, ⟨rfl, rfl, rfl⟩, F4, env3, g5, ?_⟩
          cases eo : ot env3 with
          | bad => rw [eo] at h2; cases h2
          | exc x e => rw [eo] at h2; cases h2
          | ok b e2 =>
            rw [eo] at h2
            intro H6 F6 g6 x6
            cases b with
            | false =>
              dsimp only at h2
              rw [if_neg Bool.false_ne_true]
              split at h2
              case isFalse => cases h2
              rename_i c
              obtain ⟨k1, k2, k3, k4, k5, k6⟩ := fin F6 H6 e2 g6 x6 c
              exact ⟨m - 1, by omega, F6, _, vacc, acc, k1, k2, by omega, k3, k4, k5, k6, h2⟩
            | true =>
              dsimp only at h2
              rw [if_pos rfl]
              refine ⟨Z.apart F2 (wipe σ ws) H' env2, ⟨rfl, rfl, rfl⟩, F6, e2, g6, ?_⟩
              cases er : oe e2 with
              | bad => rw [er] at h2; cases h2
              | exc x e => rw [er] at h2; cases h2
              | ok r e3 =>
                rw [er] at h2
                dsimp only at h2
                split at h2
                case isFalse => cases h2
                rename_i c
                intro y H7 F7 g7 x7 r7
                obtain ⟨F8, g8, x8, r8⟩ := g7.give r7
                obtain ⟨k1, k2, k3, k4, k5, k6⟩ := fin F8 H7 e3 g8 (x6.trans (x7.trans x8)) c.1
                refine ⟨vacc, k3, Nat.lt_of_lt_of_le (by rw [k5.length]; exact c.2) big_line, m - 1, by omega, F8, _, vacc ++ [y], acc ++ [r.fz], k1.other k4 Z0L k6, k2, by omega, upd_same, k4, k5.append (.single r8), k6, h2⟩
        rcases it.yld i d F2 H' x H'' x2 g3.fh hd hy with ⟨rfl, rx⟩ | ⟨T, o, hT, rfl, rx⟩
        · exact turn F2 H'' ga (Ex.refl F2) rx
        · exact turn _ _ (ga.layF hT) (Ex.new (g3.fresh hT)) rx
    · rw [List.drop_of_length_le (by omega)] at h2
      cases h2
      refine .inl ⟨it.stop i F2 H' x2 g3.fh (by omega), ?_⟩
      have gr := Good.rests g1 x2 g3 nd okw noF
      refine h1 (.ref L) H' F2 gr x2 ⟨L, vacc, rfl, hLc, hFL, racc, Z0L, fun i s e1 e2 e3 => ?_⟩
      obtain ⟨q1, q2⟩ := restE_own okw e1 e2
      refine nL ⟨i, s, q1, e2, ?_⟩
      rw [wipe_get, if_neg (fun c => q2 c.1)]
      exact e3
section
variable {X : Cx} {Z : Zd} {elt tg iter : Expr} {ifs : List Expr} {scope : Scope} {own : List (PySem.Str × Nat)} {pos spos py : Pos} {oi : Env → OI} {g : TG} {f : D → Env → Option Env} {ot : Env → OT} {oe : Env → OE} {i : Nat} {y : PySem.Str}
theorem PTs.imp {c : List Expr} {t t' : TT} (h : PTs X c t) (k : ∀ σ H Q, t' σ H Q → t σ H Q) : PTs X c t' := ⟨fun pins s σ H Q I q => h.run pins s σ H Q I (k σ H Q q)⟩
theorem n_yes {X : Cx} {Z : Zd} : PTs X [] (tT Z oYes) := PTs.imp pts_nil fun σ H Q ⟨F, env, g, h⟩ => h H F g (Ex.refl F)
theorem n_test {X : Cx} {Z : Zd} {c : Expr} {o : Env → OT} (h : PT X c (tT Z o)) : PTs X [c] (tT Z o) := pts_one h
theorem n_lc (hc : X.calm = true) (hN : X.N.Nodup) (hi : PI X tg iter (tI Z oi)) (ok : BlkOk X.N X.env.scope scope own) (nd : (own.map (·.2)).Nodup) (ht : TgOk Z.G (own.map (·.2)) g f)
    (hg : ∀ (s : Shared) (H : Hp) (C : Addr) (cl : List (PySem.Str × Addr)) (fp : List Addr), PG (X.blk s H scope (compEnvC scope cl C X.env) fp) tg g)
    (hT : ∀ (Z' : Zd), Zq Z.G Z.C Z' → ∀ (s : Shared) (H : Hp) (C : Addr) (cl : List (PySem.Str × Addr)) (fp : List Addr), PTs (X.blk s H scope (compEnvC scope cl C X.env) fp) ifs (tT Z' ot))
    (he : ∀ (Z' : Zd), Zq Z.G Z.C Z' → ∀ (s : Shared) (H : Hp) (C : Addr) (cl : List (PySem.Str × Addr)) (fp : List Addr), PE (X.blk s H scope (compEnvC scope cl C X.env) fp) elt (tE Z' oe)) (hs : ∀ x, foldedSetIterable iter X.env x = pure x := by intro _; rfl) :
    PE X (.ListComp elt [⟨tg, iter, ifs, 0⟩] scope pos) (tE Z (oLc oi f ot oe (own.map (·.2)))) :=
  PE.imp (pe_lc (tt := tTx Z.G Z.C ot) (te := tEx Z.G Z.C oe) hc hN hi ok hg (fun s H C cl fp => ⟨fun pins s' σ H' Q I ⟨Z', q, h⟩ => (hT Z' q s H C cl fp).run pins s' σ H' Q I h⟩) (fun s H C cl fp => ⟨fun pins s' σ H' Q I ⟨Z', q, h⟩ => (he Z' q s H C cl fp).run pins s' σ H' Q I h⟩) hs) fun σ H Q h => lc_to ht nd h
/-- name = [..], on one line -/
theorem n_asgLc (i : Nat) (hc : X.calm = true) (hN : X.N.Nodup) (hi : PI X tg iter (tI Z oi)) (ok : BlkOk X.N X.env.scope scope own) (nd : (own.map (·.2)).Nodup) (ht : TgOk Z.G (own.map (·.2)) g f)
    (hg : ∀ (s : Shared) (H : Hp) (C : Addr) (cl : List (PySem.Str × Addr)) (fp : List Addr), PG (X.blk s H scope (compEnvC scope cl C X.env) fp) tg g)
    (hT : ∀ (Z' : Zd), Zq Z.G Z.C Z' → ∀ (s : Shared) (H : Hp) (C : Addr) (cl : List (PySem.Str × Addr)) (fp : List Addr), PTs (X.blk s H scope (compEnvC scope cl C X.env) fp) ifs (tT Z' ot))
    (he : ∀ (Z' : Zd), Zq Z.G Z.C Z' → ∀ (s : Shared) (H : Hp) (C : Addr) (cl : List (PySem.Str × Addr)) (fp : List Addr), PE (X.blk s H scope (compEnvC scope cl C X.env) fp) elt (tE Z' oe))
    (hsw : swapsWith (.ListComp elt [⟨tg, iter, ifs, 0⟩] scope pos) (some (.Name y py)) spos.line X.env = pure true)
    (hy : X.N[i]? = some y := by rfl) (hyl : X.env.scope.names.lookup y = some .local := by rfl) (hs : ∀ x, foldedSetIterable iter X.env x = pure x := by intro _; rfl) :
    PS X (.Assign [.Name y py] (.ListComp elt [⟨tg, iter, ifs, 0⟩] scope pos) spos) (tS Z (sAsg i (oLc oi f ot oe (own.map (·.2))))) := by
  refine PS.imp (ps_setLc (i := i) (tt := tTx Z.G Z.C ot) (te := tEx Z.G Z.C oe) hc hN hy hyl hsw hi ok hg (fun s H C cl fp => ⟨fun pins s' σ H' Q I ⟨Z', q, h⟩ => (hT Z' q s H C cl fp).run pins s' σ H' Q I h⟩) (fun s H C cl fp => ⟨fun pins s' σ H' Q I ⟨Z', q, h⟩ => (he Z' q s H C cl fp).run pins s' σ H' Q I h⟩) hs) fun Dn σ H ⟨F, env, g0, h⟩ => ?_
  refine lc_to ht nd (seqES g0 h fun r env1 v H1 F1 g1 x1 r1 h1 => ?_)
  split at h1
  · rename_i c
    exact h1 _ H1 F1 (g1.asg r1 c) (Ex.refl F1)
  · exact h1.elim
end
end FE

namespace FE
open PySem PySem.Spec PyProof.Rows L2

/-! ### defs -/
inductive OC where
  | ret (r : R) (out : List D) | exc (x : Xc) (out : List D) | bad
def ioD : D → SV
  | .lst es => .io es
  | _ => .no
def argEnv : Option Nat → List D → Env
  | none, ds => ds.map SV.sh
  | some _, [] => []
  | some 0, d :: ds => ioD d :: ds.map SV.sh
  | some (p + 1), d :: ds => .sh d :: argEnv (some p) ds
def outOf (io : Option Nat) (env : Env) : Option (List D) := match io with
  | none => some []
  | some p => match env[p]? with
    | some (.io es) => some es
    | _ => none
def finS (io : Option Nat) : OS → OC
  | .nx env => match outOf io env with
    | some es => .ret (.sh .non) es
    | none => .bad
  | .ret r env => match outOf io env with
    | some es => .ret r es
    | none => .bad
  | .exc x env => match outOf io env with
    | some es => .exc x es
    | none => .bad
  | _ => .bad
def runF (n : Nat) (io : Option Nat) (body : Env → OS) (ds : List D) : OC := finS io (body (argEnv io ds ++ List.replicate (n - ds.length) SV.no))

theorem argEnv_len : ∀ (io : Option Nat) (ds : List D), (argEnv io ds).length = ds.length
  | none, ds => by simp [argEnv]
  | some _, [] => by simp [argEnv]
  | some 0, d :: ds => by simp [argEnv]
  | some (p + 1), d :: ds => by
    show (argEnv (some p) ds).length + 1 = ds.length + 1
    rw [argEnv_len (some p) ds]
theorem argEnv_sh : ∀ (io : Option Nat) (ds : List D) (i : Nat), io ≠ some i → (argEnv io ds)[i]? = (ds[i]?).map SV.sh
  | none, ds, i, _ => by simp [argEnv]
  | some _, [], i, _ => by simp [argEnv]
  | some 0, d :: ds, 0, h => absurd rfl h
  | some 0, d :: ds, i + 1, _ => by simp [argEnv]
  | some (p + 1), d :: ds, 0, _ => by simp [argEnv]
  | some (p + 1), d :: ds, i + 1, h => by
    have := argEnv_sh (some p) ds i (fun e => h (by cases e; rfl))
    simpa [argEnv] using this
theorem argEnv_io : ∀ (p : Nat) (ds : List D), (argEnv (some p) ds)[p]? = (ds[p]?).map ioD
  | _, [] => by simp [argEnv]
  | 0, d :: ds => by simp [argEnv]
  | p + 1, d :: ds => by
    have := argEnv_io p ds
    simpa [argEnv] using this

structure ArgsOk (G : Gd) (F H : Hp) (io : Option Nat) (ps : List Addr) (vs : List V) (ds : List D) : Prop where
  fh : Ex F H
  len : vs.length = ds.length
  sh : ∀ i d, io ≠ some i → ds[i]? = some d → ∃ v, vs[i]? = some v ∧ Rep G F v d
  ow : ∀ p, io = some p → ∃ a ws es, vs[p]? = some (.ref a) ∧ ds[p]? = some (.lst es) ∧ H a = some (.lst ws) ∧ F a = none ∧ RepL G F ws es ∧ ps = [a]
  nn : io = none → ps = []
structure Bk (G : Gd) (F H : Hp) (ps : List Addr) (out : List D) (F' H' : Hp) : Prop where
  ff : Ex F F'
  fh : Ex F' H'
  keep : ∀ b o, H b = some o → b ∉ ps → H' b = some o
  new : ∀ b o, F' b = some o → F b = none → H b = none
  out : ∀ a ∈ ps, ∃ ws, H' a = some (.lst ws) ∧ F' a = none ∧ RepL G F' ws out
def RetOk (G : Gd) (F' H H' : Hp) (v : V) : R → Prop
  | .sh d => Rep G F' v d
  | .ow ds => ∃ a vs, v = .ref a ∧ H' a = some (.lst vs) ∧ F' a = none ∧ RepL G F' vs ds ∧ H a = none
def ExcOk (G : Gd) (C : PySem.Str → Value → Prop) (F : Hp) (cls : Value) (d : Option Addr) (x : Xc) : Prop :=
  C x.cls cls ∧ (x.bears ≠ [] → ∃ dx vs, d = some dx ∧ F dx = some (.xd ((x.bears.map (·.1)).zip vs)) ∧ RepL G F vs (x.bears.map (·.2)))
def PostC (G : Gd) (C : PySem.Str → Value → Prop) (F H : Hp) (ps : List Addr) (Q : VK) (E : XK) : OC → Prop
  | .ret r out => ∀ v H' F', Bk G F H ps out F' H' → RetOk G F' H H' v r → Q v H'
  | .exc x out => ∀ cls d H' F', Bk G F H ps out F' H' → ExcOk G C F' cls d x → E cls d H'
  | .bad => False
def spF (G : Gd) (C : PySem.Str → Value → Prop) (np : Nat) (io : Option Nat) (f : List D → OC) : Sp := fun vs H Q E => ∃ (F : Hp) (ds : List D) (ps : List Addr), vs.length = np ∧ ArgsOk G F H io ps vs ds ∧ PostC G C F H ps Q E (f ds)

section
variable {G : Gd} {F H : Hp} {io : Option Nat} {ps : List Addr} {vs : List V} {ds : List D} {N : List PySem.Str} {W : WX} {C : PySem.Str → Value → Prop}
theorem start_get {i : Nat} {v : V} (h : vs[i]? = some v) : (L2.start N vs)[i]? = some (some v) := by
  have hl : i < vs.length := (List.getElem?_eq_some_iff.mp h).1
  unfold L2.start
  rw [List.getElem?_append_left (by rw [List.length_map]; exact hl), List.getElem?_map, h]
  rfl
theorem env_get {n i : Nat} {s : SV} (h : (argEnv io ds ++ List.replicate n SV.no)[i]? = some s) (hs : s ≠ .no) : (argEnv io ds)[i]? = some s := by
  by_cases hl : i < (argEnv io ds).length
  · rw [List.getElem?_append_left hl] at h
    exact h
  · rw [List.getElem?_append_right (by omega)] at h
    have := (List.mem_replicate.mp (List.mem_of_getElem? h)).2
    exact absurd this hs
theorem good_start (a : ArgsOk G F H io ps vs ds) : Good ⟨G, F, H, ps, W, C⟩ F (L2.start N vs) H (argEnv io ds ++ List.replicate (N.length - ds.length) SV.no) where
  ff := Ex.refl F
  fh := a.fh
  keep := fun b o h _ => h
  new := fun b o h n => by
    rw [show F b = none from n] at h
    cases h
  len := by
    unfold L2.start
    rw [List.length_append, List.length_append, argEnv_len, List.length_map, List.length_replicate, List.length_replicate, a.len]
  sh := fun i d h => by
    have h := env_get h (by intro z; cases z)
    by_cases e : io = some i
    · subst e
      rw [argEnv_io] at h
      cases q : ds[i]? with
      | none => rw [q] at h; cases h
      | some d0 =>
        rw [q] at h
        cases d0 <;> cases h
    · rw [argEnv_sh io ds i e] at h
      cases q : ds[i]? with
      | none => rw [q] at h; cases h
      | some d0 =>
        rw [q] at h
        cases h
        obtain ⟨v, h1, h2⟩ := a.sh i d e q
        exact ⟨v, start_get h1, h2⟩
  ow := fun i s es h ho => by
    have h := env_get h (by intro z; subst z; cases ho)
    by_cases e : io = some i
    · obtain ⟨b, ws, es', h1, h2, h3, h4, h5, h6⟩ := a.ow i e
      subst e
      rw [argEnv_io, h2] at h
      cases h
      cases ho
      exact ⟨b, ws, start_get h1, h3, h4, h5, .inl (by rw [show (Zd.mk G F H ps W C).ps = ps from rfl, h6]; exact List.mem_singleton.mpr rfl)⟩
    · rw [argEnv_sh io ds i e] at h
      cases q : ds[i]? with
      | none => rw [q] at h; cases h
      | some d0 =>
        rw [q] at h
        cases h
        cases ho
  io := fun i es h => by
    have h := env_get h (by intro z; cases z)
    by_cases e : io = some i
    · obtain ⟨b, ws, es', h1, h2, h3, h4, h5, h6⟩ := a.ow i e
      exact ⟨b, start_get h1, by rw [show (Zd.mk G F H ps W C).ps = ps from rfl, h6]; exact List.mem_singleton.mpr rfl⟩
    · rw [argEnv_sh io ds i e] at h
      cases q : ds[i]? with
      | none => rw [q] at h; cases h
      | some d0 =>
        rw [q] at h
        cases h
  nio := fun i es h b hb => by
    have h := env_get h (by intro z; cases z)
    by_cases e : io = some i
    · obtain ⟨b, ws, es', h1, h2, h3, h4, h5, h6⟩ := a.ow i e
      subst e
      rw [argEnv_io, h2] at h
      cases h
    · rw [argEnv_sh io ds i e] at h
      cases q : ds[i]? with
      | none => rw [q] at h; cases h
      | some d0 =>
        rw [q] at h
        cases h
  pa := fun b hb => by
    cases io with
    | none =>
      have := a.nn rfl
      rw [show (Zd.mk G F H ps W C).ps = ps from rfl, this] at hb
      cases hb
    | some p =>
      obtain ⟨b', ws, es', h1, h2, h3, h4, h5, h6⟩ := a.ow p rfl
      rw [show (Zd.mk G F H ps W C).ps = ps from rfl, h6] at hb
      have : b = b' := List.mem_singleton.mp hb
      subst this
      refine ⟨p, es', ?_, start_get h1⟩
      have hl : p < (argEnv (some p) ds).length := by
        rw [argEnv_len]
        exact (List.getElem?_eq_some_iff.mp h2).1
      rw [List.getElem?_append_left hl, argEnv_io, h2]
      rfl
  dis := fun i j b s t nij ei ej si sj hi hj => by
    have key : ∀ {i s}, (argEnv io ds ++ List.replicate (N.length - ds.length) SV.no)[i]? = some s → (Own s).isSome = true → io = some i := by
      intro i s h ho
      have h := env_get h (by intro z; subst z; cases ho)
      by_cases e : io = some i
      · exact e
      · rw [argEnv_sh io ds i e] at h
        cases q : ds[i]? with
        | none => rw [q] at h; cases h
        | some d0 =>
          rw [q] at h
          cases h
          cases ho
    have e1 := key ei si
    have e2 := key ej sj
    rw [e1] at e2
    exact nij (Option.some.inj e2)
/-- what stands at the end -/
theorem good_end {Z : Zd} (hZ : Z = ⟨G, F, H, ps, W, C⟩) (a : ArgsOk G F H io ps vs ds) {σ' : L2.St} {H' F' : Hp} {env' : Env} {out : List D} (g : Good Z F' σ' H' env') (ho : outOf io env' = some out) : Bk G F H ps out F' H' where
  ff := by
    have := g.ff
    rw [hZ] at this
    exact this
  fh := g.fh
  keep := fun b o h n => g.keep b o (by rw [hZ]; exact h) (by rw [hZ]; exact n)
  new := fun b o h n => by
    have := g.new b o h (by rw [hZ]; exact n)
    rw [hZ] at this
    exact this
  out := fun b hb => by
    cases io with
    | none =>
      rw [a.nn rfl] at hb
      cases hb
    | some p =>
      obtain ⟨b', ws, es', h1, h2, h3, h4, h5, h6⟩ := a.ow p rfl
      rw [h6] at hb
      have : b = b' := List.mem_singleton.mp hb
      subst this
      unfold outOf at ho
      dsimp only at ho
      cases q : env'[p]? with
      | none => rw [q] at ho; cases ho
      | some s =>
        rw [q] at ho
        cases s <;> cases ho
        obtain ⟨c, k1, k2⟩ := g.io p out q
        have hc : c = b := by
          rw [hZ] at k2
          have k2 : c ∈ ps := k2
          rw [h6] at k2
          exact List.mem_singleton.mp k2
        subst hc
        obtain ⟨c', ws', m1, m2, m3, m4, _⟩ := g.ow p _ out q rfl
        rw [k1] at m1
        cases m1
        rw [hZ] at m4
        exact ⟨ws', m2, m3, m4⟩
end

structure RoomX (k : Nat) (X : Cx) : Prop where
  r : Room k X.A
  g : X.A.guards = some []
/-- what a def's body is derived under -/
def InDef (X : Cx) (Z : Zd) : Prop := Takes X Z.W ∧ PassesOwn (model X.prog X.w) X.A X.env X.xe
section
variable {P : Program} {w : World} {K : PySem.W.Frag} {mg : PySem.Str → Option Value} {base : Heap} {k : Nat} {f : Addr} {fd : FuncData} {N ps : List PySem.Str} {C : PySem.Str → Value → Prop}
theorem fnF {x qual : PySem.Str} {params : Arguments} {body : List Stmt} {scope : Scope} {dvs : List V} {kws : List (PySem.Str × V)} (D : FunD K x qual params body scope dvs kws f fd) (S : FnScope N ps scope) (io : Option Nat) {o : Env → OS}
    (h : ∀ (cdv : Value) (A : Around) (outer : List PySem.Env) (s : Shared) (H : Hp) (E : XK) (F0 : Hp) (as : List Addr), RoomX k (cxOf (L2.CX P w) P w K mg base N qual scope f cdv A outer s H E) →
      InDef (cxOf (L2.CX P w) P w K mg base N qual scope f cdv A outer s H E) ⟨⟨K, mg⟩, F0, H, as, fun cls d _ H' => E cls d H', C⟩ →
      PSs (cxOf (L2.CX P w) P w K mg base N qual scope f cdv A outer s H E) body (tS ⟨⟨K, mg⟩, F0, H, as, fun cls d _ H' => E cls d H', C⟩ o)) :
    FnG P w K mg base (k + 1) f fd ps (spF ⟨K, mg⟩ C ps.length io (runF N.length io o)) := by
  refine fnG_of D S (fun vs H Q E h => ?_) fun cdv A outer s H vs Q E hr hg hsp => ?_
  · obtain ⟨_, _, _, h1, _⟩ := h
    exact h1
  · obtain ⟨F0, ds, as, h1, h2, h3⟩ := hsp
    refine ⟨_, h cdv A outer s H E F0 as ⟨hr, hg⟩ ⟨takes_of rfl rfl rfl rfl, passes_of rfl⟩, F0, _, good_start (N := N) h2, ?_⟩
    unfold runF at h3
    cases e : o (argEnv io ds ++ List.replicate (N.length - ds.length) SV.no) with
    | bad => rw [e] at h3; exact h3
    | brk env' => rw [e] at h3; exact h3.elim
    | cnt env' => rw [e] at h3; exact h3.elim
    | nx env' =>
      rw [e] at h3
      unfold finS at h3
      dsimp only at h3
      cases q : outOf io env' with
      | none => rw [q] at h3; exact h3.elim
      | some es =>
        rw [q] at h3
        exact fun σ' H' F' g x => h3 .non H' F' (good_end rfl h2 g q) .non
    | ret r env' =>
      rw [e] at h3
      unfold finS at h3
      dsimp only at h3
      cases q : outOf io env' with
      | none => rw [q] at h3; exact h3.elim
      | some es =>
        rw [q] at h3
        intro v σ' H' F' g x rr
        refine h3 v H' F' (good_end rfl h2 g q) ?_
        cases r with
        | sh d => exact rr
        | ow xs =>
          obtain ⟨a, vs', e1, e2, e3, e4, e5, _⟩ := rr
          exact ⟨a, vs', e1, e2, e3, e4, e5⟩
    | exc x env' =>
      rw [e] at h3
      unfold finS at h3
      dsimp only at h3
      cases q : outOf io env' with
      | none => rw [q] at h3; exact h3.elim
      | some es =>
        rw [q] at h3
        exact fun cls d σ' H' F' g _ rx => h3 cls d H' F' (good_end rfl h2 g q) rx
end
end FE

namespace FE
open PySem PySem.Spec PyProof.Rows L2

/-! ### calls of defs -/
section
variable {Z : Zd} {F F' H H' : Hp} {σ : L2.St} {env : Env} {ps : List Addr} {out : List D}
/-- behind a call: where the caller's own lists were not handed in -/
theorem Good.callee (g : Good Z F σ H env) (b : Bk Z.G F H ps out F' H') (hp : ∀ a ∈ ps, Z.H0 a = none) (hn : ∀ a ∈ ps, ¬ OwnedAt σ env a) : Good Z F' σ H' env where
  ff := g.ff.trans b.ff
  fh := b.fh
  keep := fun a o h n => b.keep a o (g.keep a o h n) (fun q => by rw [hp a q] at h; cases h)
  new := fun a o h n => by
    cases q : F a with
    | some u =>
      have := b.ff a u q
      exact g.new a u q n
    | none => exact g.fresh0 (b.new a o h q)
  len := g.len
  sh := fun i d e => by
    obtain ⟨v, h1, h2⟩ := g.sh i d e
    exact ⟨v, h1, h2.mono b.ff⟩
  ow := fun i s ds e1 e2 => by
    obtain ⟨a, vs, h1, h2, h3, h4, h5⟩ := g.ow i s ds e1 e2
    have na : a ∉ ps := fun q => hn a q ⟨i, s, e1, by rw [e2]; rfl, h1⟩
    refine ⟨a, vs, h1, b.keep a _ h2 na, ?_, h4.mono b.ff, h5⟩
    cases q : F' a with
    | none => rfl
    | some o =>
      rw [b.new a o q h3] at h2
      cases h2
  io := g.io
  nio := g.nio
  pa := g.pa
  dis := g.dis
/-- .. where the list of slot i was -/
theorem Good.calleeS (g : Good Z F σ H env) {i : Nat} {s : SV} {ds : List D} {a : Addr} {env' : Env} (b : Bk Z.G F H [a] out F' H') (hs : env[i]? = some s) (ho : Own s = some ds) (hσ : σ[i]? = some (some (.ref a))) (h : setOwn env i out = some env') : Good Z F' σ H' env' := by
  obtain ⟨a2, vs2, q1, q2, q3, q4, q5⟩ := g.ow i s ds hs ho
  rw [hσ] at q1
  cases q1
  obtain ⟨ws, o1, o2, o3⟩ := b.out a (List.mem_singleton.mpr rfl)
  obtain ⟨s', rfl, hk⟩ : ∃ s', env' = env.set i s' ∧ ((∃ x, s = .ow x ∧ s' = .ow out) ∨ ∃ x, s = .io x ∧ s' = .io out) := by
    unfold setOwn at h
    rw [hs] at h
    cases s with
    | ow x => cases h; exact ⟨_, rfl, .inl ⟨_, rfl, rfl⟩⟩
    | io x => cases h; exact ⟨_, rfl, .inr ⟨_, rfl, rfl⟩⟩
    | no => cases h
    | sh d => cases h
  have hl : i < env.length := (List.getElem?_eq_some_iff.mp hs).1
  have own' : Own s' = some out := by
    rcases hk with ⟨x, _, rfl⟩ | ⟨x, _, rfl⟩ <;> rfl
  have owned : ∀ {j t}, env[j]? = some t → (Own t).isSome = true → j ≠ i → σ[j]? ≠ some (some (.ref a)) := fun {j t} e1 e2 ne => g.dis i j a s t (Ne.symm ne) hs e1 (by rw [ho]; rfl) e2 hσ
  have noF' : ∀ {c : Addr} {u : HO}, F c = none → H c = some u → F' c = none := fun {c u} e1 e2 => by
    cases q : F' c with
    | none => rfl
    | some o =>
      rw [b.new c o q e1] at e2
      cases e2
  refine ⟨g.ff.trans b.ff, b.fh, fun c o e n => ?_, fun c o e n => ?_, by rw [List.length_set]; exact g.len, fun j d e => ?_, fun j t es e eo => ?_, fun j es e => ?_, fun j es e c ec => ?_, fun c hc => ?_, fun j k c t u njk ej ek tj tk hj hk2 => ?_⟩
  · have ne : c ≠ a := fun z => by
      subst z
      rcases q5 with z | z
      · exact n z
      · rw [z] at e
        cases e
    exact b.keep c o (g.keep c o e n) (fun q => ne (List.mem_singleton.mp q))
  · cases q : F c with
    | some u => exact g.new c u q n
    | none => exact g.fresh0 (b.new c o e q)
  · rcases get_set e with ⟨rfl, e2⟩ | ⟨ne, e2⟩
    · rcases hk with ⟨x, _, rfl⟩ | ⟨x, _, rfl⟩ <;> cases e2
    · obtain ⟨v, h1, h2⟩ := g.sh j d e2
      exact ⟨v, h1, h2.mono b.ff⟩
  · rcases get_set e with ⟨rfl, e2⟩ | ⟨ne, e2⟩
    · subst e2
      rw [own'] at eo
      cases eo
      exact ⟨a, ws, hσ, o1, o2, o3, q5⟩
    · obtain ⟨c, ws2, h1, h2, h3, h4, h5⟩ := g.ow j t es e2 eo
      have nb : c ≠ a := fun z => by
        subst z
        exact owned e2 (by rw [eo]; rfl) (Ne.symm ne) h1
      exact ⟨c, ws2, h1, b.keep c _ h2 (fun q => nb (List.mem_singleton.mp q)), noF' h3 h2, h4.mono b.ff, h5⟩
  · rcases get_set e with ⟨rfl, e2⟩ | ⟨ne, e2⟩
    · rcases hk with ⟨x, rfl, rfl⟩ | ⟨x, rfl, rfl⟩
      · cases e2
      · exact g.io i x hs
    · exact g.io j es e2
  · rcases get_set e with ⟨rfl, e2⟩ | ⟨ne, e2⟩
    · rcases hk with ⟨x, rfl, rfl⟩ | ⟨x, rfl, rfl⟩
      · exact g.nio i x hs c ec
      · cases e2
    · exact g.nio j es e2 c ec
  · obtain ⟨j, es, e1, e2⟩ := g.pa c hc
    by_cases ne : i = j
    · subst ne
      rw [hs] at e1
      cases e1
      rcases hk with ⟨x, z, _⟩ | ⟨x, _, rfl⟩
      · cases z
      · exact ⟨i, out, List.getElem?_set_self hl, e2⟩
    · exact ⟨j, es, by rw [List.getElem?_set_ne ne]; exact e1, e2⟩
  · have get : ∀ {j t}, (env.set i s')[j]? = some t → (Own t).isSome = true → ∃ t', env[j]? = some t' ∧ (Own t').isSome = true := fun {j t} e1 e2 => by
      rcases get_set e1 with ⟨rfl, e3⟩ | ⟨_, e3⟩
      · exact ⟨s, hs, by rw [ho]; rfl⟩
      · exact ⟨t, e3, e2⟩
    obtain ⟨t1, a1, a2⟩ := get ej tj
    obtain ⟨t2, a3, a4⟩ := get ek tk
    exact g.dis j k c t1 t2 njk a1 a3 a2 a4 hj hk2
theorem setOwn_own {i : Nat} {env' : Env} (h : setOwn env i out = some env') : ∀ (j : Nat) s, env'[j]? = some s → (Own s).isSome = true → ∃ s', env[j]? = some s' ∧ (Own s').isSome = true := by
  intro j s e1 e2
  unfold setOwn at h
  cases q : env[i]? with
  | none => rw [q] at h; cases h
  | some t =>
    rw [q] at h
    cases t with
    | ow x =>
      cases h
      rcases get_set e1 with ⟨rfl, _⟩ | ⟨_, e3⟩
      · exact ⟨_, q, rfl⟩
      · exact ⟨s, e3, e2⟩
    | io x =>
      cases h
      rcases get_set e1 with ⟨rfl, _⟩ | ⟨_, e3⟩
      · exact ⟨_, q, rfl⟩
      · exact ⟨s, e3, e2⟩
    | no => cases h
    | sh d => cases h
/-- what a call told is a value that has come -/
theorem retOk_rep (g : Good Z F σ H env) {env' : Env} (hs : ∀ (j : Nat) s, env'[j]? = some s → (Own s).isSome = true → ∃ s', env[j]? = some s' ∧ (Own s').isSome = true) {v : V} {r : R} (h : RetOk Z.G F' H H' v r) : RepR Z F' σ env' H' v r := by
  cases r with
  | sh d => exact h
  | ow ds =>
    obtain ⟨a, vs, rfl, h1, h2, h3, h4⟩ := h
    refine ⟨a, vs, rfl, h1, h2, h3, g.fresh0 h4, fun j s e1 e2 e3 => ?_⟩
    obtain ⟨s', k1, k2⟩ := hs j s e1 e2
    exact g.nown h4 j s' k1 k2 e3
end

/-- a def that may be called: n values by place, ks by name; how both are put in order -/
structure Cal (P : Program) (w : World) (K : PySem.W.Frag) (mg : PySem.Str → Option Value) (base : Heap) (k : Nat) (x : PySem.Str) (n : Nat) (ks : List PySem.Str) (gV : List V → List V → List V) (sp : Sp) : Prop where
  ex : ∃ (f : Addr) (fd : FuncData) (ps : List PySem.Str) (g : List Value → List Value → List Value), mg x = some (.ref f) ∧ PySem.W.keepIn K (.ref f) = true ∧ FnG P w K mg base k f fd ps sp ∧ KBn K fd ps n ks g gV
theorem Cal.mono {P : Program} {w : World} {K : PySem.W.Frag} {mg : PySem.Str → Option Value} {base : Heap} {j k : Nat} {x : PySem.Str} {n : Nat} {ks : List PySem.Str} {gV : List V → List V → List V} {sp : Sp} (h : Cal P w K mg base j x n ks gV sp) (l : j ≤ k) : Cal P w K mg base k x n ks gV sp := by
  obtain ⟨f, fd, ps, g, h1, h2, h3, h4⟩ := h.ex
  exact ⟨f, fd, ps, g, h1, h2, h3.mono l, h4⟩
section
variable {X : Cx} {k n : Nat} {ks : List PySem.Str} {sp : Sp} {W : WX} {gV : List V → List V → List V}
def tCallN (n m : Nat) (sp : Sp) (W : WX) (gV : List V → List V → List V) (t tk : TA) : TE := fun σ H Q => t σ H fun vs H1 => tk σ H1 fun zs H2 => vs.length = n ∧ zs.length = m ∧ sp (gV vs zs) H2 Q (fun cls d H' => W cls d σ H')
theorem pe_callN {x : PySem.Str} {p pos : Pos} {e : Expr} {es : List Expr} {kws : List Keyword} {t tk : TA} (c : Cal X.prog X.w X.K X.mg X.base k x n ks gV sp) (hx : RoomX k X) (hgl : Gl X x)
    (tks : Takes X W) (ha : PA X (e :: es) t) (hkw : PK X kws tk) (hall : (backToKw pos (keywordEach kws X.env)).all (·.1.isSome) = true) (hks : (backToKw pos (keywordEach kws X.env)).filterMap (·.1) = ks)
    (hdb : (x == ("__debug__" : PySem.Str)) = false) (he : starEach (e :: es) X.env = (false, eval e X.env) :: starEach es X.env)
    (hpl : ((backTo pos (starEach (e :: es) X.env)).any (·.1) || (backToKw pos (keywordEach kws X.env)).any (·.1.isNone)) = false) :
    PE X (.Call (.Name x p) (e :: es) kws pos) (tCallN n ks.length sp W gV t tk) := by
  obtain ⟨f, fd, ps, g, hm, hk, F, hb⟩ := c.ex
  constructor
  intro pins s σ H Q I h
  refine wpAny_Call_Name_kw (ld_glob I hgl hm ?_ hdb)
  refine PySem.W.callWith_KW (h₀ := X.base) I.ok.mod.kin hk hall (thn (ha.run pos pins s σ H _ I h) ?_) hpl he
  rintro us s1 ⟨vs, H1, I1, r, q⟩
  refine thn (hkw.run pos pins s1 σ H1 _ I1 q) ?_
  rintro ws s2 ⟨zs, H2, I2, rz, l1, l2, q2⟩
  refine ⟨I2.kIn, ?_⟩
  rw [hks]
  have r2 := hb.rel r rz
  have bt := hb.to s2 us ws I2.kIn (r.length.symm.trans l1) (rz.length.symm.trans l2)
  refine wpAny_call (codeAny_mono (F.run X.A X.stack s2 H2 ⟨us, ks.zip ws⟩ (g us ws) (gV vs zs) Q (fun cls d H' => W cls d σ H') hx.r hx.g I2.env0 bt r2 q2) ?_)
  intro r s' hq
  cases r with
  | error e => exact tks e s' (XE.of_call I2 (fun _ _ _ z => z) hq)
  | ok fl =>
    cases fl with
    | ret u => exact I2.after hq
    | next => exact False.elim hq
    | brk => exact False.elim hq
    | cont => exact False.elim hq
end
/-- a call whose values are shared -/
def oCall (f : List D → OC) (n m : Nat) (gD : List D → List D → List D) (oa ok : Env → OA) : Env → OE := fun env => (oa env).bindE fun ds e1 => (ok e1).bindE fun es e2 => if ds.length = n ∧ es.length = m then match f (gD ds es) with
  | .ret r _ => .ok r e2
  | .exc x _ => .exc x e2
  | .bad => .bad
  else .bad
/-- how values are put in order, by data and by values -/
def GRel (np n m : Nat) (gV : List V → List V → List V) (gD : List D → List D → List D) : Prop := ∀ (G : Gd) (F : Hp) (vs zs : List V) (ds es : List D), vs.length = n → zs.length = m → RepL G F vs ds → RepL G F zs es → (gV vs zs).length = np ∧ RepL G F (gV vs zs) (gD ds es)
theorem grel_all (n : Nat) : GRel n n 0 (fun vs _ => vs) (fun ds _ => ds) := fun G F vs zs ds es h1 h2 r1 r2 => ⟨h1, r1⟩
theorem argsOk_all {G : Gd} {F H : Hp} {vs : List V} {ds : List D} (h : Ex F H) (r : RepL G F vs ds) : ArgsOk G F H none [] vs ds where
  fh := h
  len := r.length
  sh := fun i d _ e => r.get e
  ow := fun p e => by cases e
  nn := fun _ => rfl
section
variable {X : Cx} {Z : Zd} {k np n : Nat} {ks : List PySem.Str} {gV : List V → List V → List V} {gD : List D → List D → List D} {f : List D → OC} {oa ok : Env → OA}
theorem PK.imp {X : Cx} {kws : List Keyword} {t t' : TA} (h : PK X kws t) (i : ∀ σ H Q, t' σ H Q → t σ H Q) : PK X kws t' := ⟨fun pos pins s σ H Q I q => h.run pos pins s σ H Q I (i σ H Q q)⟩
theorem n_knil : PK X [] (tA Z oNil) := PK.imp pk_nil fun σ H Q ⟨F, env, g, h⟩ => h [] H F g (Ex.refl F) .nil
theorem n_call {x : PySem.Str} {p pos : Pos} {e : Expr} {es : List Expr} {kws : List Keyword} (c : Cal X.prog X.w X.K X.mg X.base k x n ks gV (spF Z.G Z.C np none f)) (hx : RoomX k X) (tk : Takes X Z.W)
    (gr : GRel np n ks.length gV gD) (ha : PA X (e :: es) (tA Z oa)) (hkw : PK X kws (tA Z ok)) (hgl : Gl X x := by rfl) (hall : (backToKw pos (keywordEach kws X.env)).all (·.1.isSome) = true := by rfl) (hks : (backToKw pos (keywordEach kws X.env)).filterMap (·.1) = ks := by rfl)
    (hdb : (x == ("__debug__" : PySem.Str)) = false := by decide) (he : starEach (e :: es) X.env = (false, eval e X.env) :: starEach es X.env := by rfl)
    (hpl : ((backTo pos (starEach (e :: es) X.env)).any (·.1) || (backToKw pos (keywordEach kws X.env)).any (·.1.isNone)) = false := by rfl) :
    PE X (.Call (.Name x p) (e :: es) kws pos) (tE Z (oCall f n ks.length gD oa ok)) := by
  refine PE.imp (pe_callN c hx hgl tk ha hkw hall hks hdb he hpl) fun σ H Q ⟨F, env, g, h⟩ => ?_
  refine seqAE g h fun ds env1 vs H1 F1 g1 x1 r1 h1 => ?_
  refine seqAE g1 h1 fun es env2 zs H2 F2 g2 x2 r2 h2 => ?_
  split at h2
  case isFalse => exact h2.elim
  rename_i hl
  have l1 : vs.length = n := r1.length.trans hl.1
  have l2 : zs.length = ks.length := r2.length.trans hl.2
  obtain ⟨k1, k2⟩ := gr Z.G F2 vs zs ds es l1 l2 (r1.mono x2) r2
  refine ⟨l1, l2, F2, gD ds es, [], k1, argsOk_all g2.fh k2, ?_⟩
  cases q : f (gD ds es) with
  | bad => rw [q] at h2; exact h2
  | exc x out =>
    rw [q] at h2
    exact fun cls d H' F' b rx => h2 cls d H' F' (g2.callee b (fun a h => by cases h) (fun a h => by cases h)) b.ff rx
  | ret r out =>
    rw [q] at h2
    exact fun v H' F' b rr => h2 v H' F' (g2.callee b (fun a h => by cases h) (fun a h => by cases h)) b.ff (retOk_rep g2 (fun j s e1 e2 => ⟨s, e1, e2⟩) rr)
end
/-! a call that is handed a list to change -/
inductive AD where
  | v (d : D) | slot (i : Nat) | own (ds : List D)
inductive OG where
  | ok (as : List AD) (env : Env) | exc (x : Xc) (env : Env) | bad
def OE.bindG (o : OE) (f : R → Env → OG) : OG := match o with
  | .ok r env => f r env
  | .exc x env => .exc x env
  | .bad => .bad
def OG.bind (o : OG) (f : List AD → Env → OG) : OG := match o with
  | .ok r env => f r env
  | .exc x env => .exc x env
  | .bad => .bad
def OG.bindE (o : OG) (f : List AD → Env → OE) : OE := match o with
  | .ok r env => f r env
  | .exc x env => .exc x env
  | .bad => .bad
def RepA1 (Z : Zd) (F : Hp) (σ : L2.St) (env : Env) (H : Hp) (v : V) : AD → Prop
  | .v d => Rep Z.G F v d
  | .slot i => σ[i]? = some (some v)
  | .own ds => RepR Z F σ env H v (.ow ds)
inductive RepAs (Z : Zd) (F : Hp) (σ : L2.St) (env : Env) (H : Hp) : List V → List AD → Prop
  | nil : RepAs Z F σ env H [] []
  | cons {v : V} {a : AD} {vs : List V} {as : List AD} : RepA1 Z F σ env H v a → RepAs Z F σ env H vs as → RepAs Z F σ env H (v :: vs) (a :: as)
def PostG (Z : Zd) (F : Hp) (σ : L2.St) (Q : List V → Hp → Prop) : OG → Prop
  | .ok as env' => ∀ vs H' F', Good Z F' σ H' env' → Ex F F' → RepAs Z F' σ env' H' vs as → Q vs H'
  | .exc x env' => PostX Z F σ x env'
  | .bad => False
def tG (Z : Zd) (o : Env → OG) : TA := fun σ H Q => ∃ F env, Good Z F σ H env ∧ PostG Z F σ Q (o env)
def oGnil : Env → OG := fun env => .ok [] env
def oGv (oa : Env → OE) (og : Env → OG) : Env → OG := fun env => (oa env).bindG fun r e1 => (og e1).bind fun as e2 => .ok (.v r.fz :: as) e2
def oGs (i : Nat) (og : Env → OG) : Env → OG := fun env => if here env[i]? = true then (og env).bind fun as e2 => .ok (.slot i :: as) e2 else .bad
def oGo (oa : Env → OE) : Env → OG := fun env => (oa env).bindG fun r e1 => match r with
  | .ow ds => .ok [.own ds] e1
  | .sh _ => .bad
def adD (env : Env) : AD → Option D
  | .v d => some d
  | .slot i => match env[i]?.bind Own with
    | some ds => some (.lst ds)
    | none => none
  | .own ds => some (.lst ds)
def adsD (env : Env) : List AD → Option (List D)
  | [] => some []
  | a :: as => match adD env a with
    | some d => match adsD env as with
      | some ds => some (d :: ds)
      | none => none
    | none => none
def adPl (p : Nat) : List AD → Bool
  | [] => true
  | .v _ :: as => match p with
    | 0 => false
    | p + 1 => adPl p as
  | _ :: as => match p with
    | 0 => as.all fun a => match a with
      | .v _ => true
      | _ => false
    | _ + 1 => false
/-- the p-th value is handed in to be changed -/
def oCallP (f : List D → OC) (n p : Nat) (og : Env → OG) : Env → OE := fun env => (og env).bindE fun as e1 => if as.length = n ∧ p < n ∧ adPl p as = true then match adsD e1 as with
  | some ds => match f ds with
    | .bad => .bad
    | .ret r out => match as[p]? with
      | some (.slot i) => match setOwn e1 i out with
        | some e2 => .ok r e2
        | none => .bad
      | _ => .ok r e1
    | .exc x out => match as[p]? with
      | some (.slot i) => match setOwn e1 i out with
        | some e2 => .exc x e2
        | none => .bad
      | _ => .exc x e1
  | none => .bad
  else .bad
theorem adPl_v : ∀ (p : Nat) (as : List AD), adPl p as = true → ∀ i a, as[i]? = some a → i ≠ p → ∃ d, a = .v d
  | _, [], _, i, a, e, _ => by simp at e
  | 0, .v _ :: as, h, _, _, _, _ => by cases h
  | p + 1, .v d :: as, h, 0, a, e, _ => by
    simp at e
    exact ⟨d, e.symm⟩
  | p + 1, .v d :: as, h, i + 1, a, e, ne => adPl_v p as h i a (by simpa using e) (by omega)
  | 0, .slot j :: as, h, 0, a, e, ne => absurd rfl ne
  | 0, .own j :: as, h, 0, a, e, ne => absurd rfl ne
  | 0, .slot j :: as, h, i + 1, a, e, _ => by
    have h : (as.all fun a => match a with
      | .v _ => true
      | _ => false) = true := h
    have := List.all_eq_true.mp h a (List.mem_of_getElem? (by simpa using e))
    cases a with
    | v d => exact ⟨d, rfl⟩
    | slot _ => cases this
    | own _ => cases this
  | 0, .own j :: as, h, i + 1, a, e, _ => by
    have h : (as.all fun a => match a with
      | .v _ => true
      | _ => false) = true := h
    have := List.all_eq_true.mp h a (List.mem_of_getElem? (by simpa using e))
    cases a with
    | v d => exact ⟨d, rfl⟩
    | slot _ => cases this
    | own _ => cases this
  | p + 1, .slot j :: as, h, _, _, _, _ => by cases h
  | p + 1, .own j :: as, h, _, _, _, _ => by cases h
theorem adPl_p : ∀ (p : Nat) (as : List AD), adPl p as = true → ∀ a, as[p]? = some a → ∀ d, a ≠ .v d
  | _, [], _, a, e, _ => by simp at e
  | 0, .v _ :: as, h, _, _, _ => by cases h
  | p + 1, .v d :: as, h, a, e, d' => adPl_p p as h a (by simpa using e) d'
  | 0, .slot j :: as, h, a, e, d => by
    simp at e
    subst e
    exact fun z => by cases z
  | 0, .own j :: as, h, a, e, d => by
    simp at e
    subst e
    exact fun z => by cases z
  | p + 1, .slot j :: as, h, _, _, _ => by cases h
  | p + 1, .own j :: as, h, _, _, _ => by cases h
theorem adsD_len : ∀ {env : Env} {as : List AD} {ds : List D}, adsD env as = some ds → ds.length = as.length
  | _, [], ds, h => by
    cases h
    rfl
  | env, a :: as, ds, h => by
    unfold adsD at h
    cases q : adD env a with
    | none => rw [q] at h; cases h
    | some d =>
      rw [q] at h
      dsimp only at h
      cases q2 : adsD env as with
      | none => rw [q2] at h; cases h
      | some es =>
        rw [q2] at h
        cases h
        simp [adsD_len q2]
theorem adsD_get : ∀ {env : Env} {as : List AD} {ds : List D} {i : Nat} {a : AD}, adsD env as = some ds → as[i]? = some a → ∃ d, ds[i]? = some d ∧ adD env a = some d
  | _, [], ds, i, a, h, e => by simp at e
  | env, a :: as, ds, i, b, h, e => by
    unfold adsD at h
    cases q : adD env a with
    | none => rw [q] at h; cases h
    | some d =>
      rw [q] at h
      dsimp only at h
      cases q2 : adsD env as with
      | none => rw [q2] at h; cases h
      | some es =>
        rw [q2] at h
        cases h
        cases i with
        | zero =>
          simp at e
          subst e
          exact ⟨d, rfl, q⟩
        | succ i =>
          obtain ⟨d', h1, h2⟩ := adsD_get q2 (show as[i]? = some b by simpa using e)
          exact ⟨d', by simpa using h1, h2⟩
section
variable {Z : Zd} {F F' F1 H H' : Hp} {σ : L2.St} {env : Env} {Q : VK} {QA : List V → Hp → Prop}
theorem RepAs.length {vs : List V} {as : List AD} (h : RepAs Z F σ env H vs as) : vs.length = as.length := by
  induction h with
  | nil => rfl
  | cons _ _ ih => simp [ih]
theorem RepAs.get {vs : List V} {as : List AD} (h : RepAs Z F σ env H vs as) : ∀ {i : Nat} {a : AD}, as[i]? = some a → ∃ v, vs[i]? = some v ∧ RepA1 Z F σ env H v a := by
  induction h with
  | nil =>
    intro i a e
    simp at e
  | @cons v b vs as h1 _ ih =>
    intro i a e
    cases i with
    | zero =>
      simp at e
      subst e
      exact ⟨v, rfl, h1⟩
    | succ i =>
      obtain ⟨u, k1, k2⟩ := ih (show as[i]? = some a by simpa using e)
      exact ⟨u, by simpa using k1, k2⟩
theorem PostG.up {o : OG} (e : Ex F F1) (h : PostG Z F σ QA o) : PostG Z F1 σ QA o := by
  cases o with
  | ok r env' => exact fun v H' F' g x => h v H' F' g (e.trans x)
  | exc x env' => exact PostX.up e h
  | bad => exact h
theorem seqGE {o : Env → OG} {f : List AD → Env → OE} {k : List V → Hp → Prop} (g : Good Z F σ H env) (h : PostE Z F σ Q ((o env).bindE f))
    (c : ∀ as env1 vs H1 F1, Good Z F1 σ H1 env1 → Ex F F1 → RepAs Z F1 σ env1 H1 vs as → PostE Z F1 σ Q (f as env1) → k vs H1) : tG Z o σ H k := by
  refine ⟨F, env, g, ?_⟩
  cases e : o env with
  | ok r env1 =>
    rw [e] at h
    exact fun vs H1 F1 g1 x1 r1 => c r env1 vs H1 F1 g1 x1 r1 (PostE.up x1 h)
  | exc x env1 =>
    rw [e] at h
    exact h
  | bad =>
    rw [e] at h
    exact h
theorem seqGG {o : Env → OG} {f : List AD → Env → OG} {k : List V → Hp → Prop} (g : Good Z F σ H env) (h : PostG Z F σ QA ((o env).bind f))
    (c : ∀ as env1 vs H1 F1, Good Z F1 σ H1 env1 → Ex F F1 → RepAs Z F1 σ env1 H1 vs as → PostG Z F1 σ QA (f as env1) → k vs H1) : tG Z o σ H k := by
  refine ⟨F, env, g, ?_⟩
  cases e : o env with
  | ok r env1 =>
    rw [e] at h
    exact fun vs H1 F1 g1 x1 r1 => c r env1 vs H1 F1 g1 x1 r1 (PostG.up x1 h)
  | exc x env1 =>
    rw [e] at h
    exact h
  | bad =>
    rw [e] at h
    exact h
theorem seqEG {o : Env → OE} {f : R → Env → OG} {k : VK} (g : Good Z F σ H env) (h : PostG Z F σ QA ((o env).bindG f))
    (c : ∀ r env1 v H1 F1, Good Z F1 σ H1 env1 → Ex F F1 → RepR Z F1 σ env1 H1 v r → PostG Z F1 σ QA (f r env1) → k v H1) : tE Z o σ H k := by
  refine ⟨F, env, g, ?_⟩
  cases e : o env with
  | ok r env1 =>
    rw [e] at h
    exact fun v H1 F1 g1 x1 r1 => c r env1 v H1 F1 g1 x1 r1 (PostG.up x1 h)
  | exc x env1 =>
    rw [e] at h
    exact h
  | bad =>
    rw [e] at h
    exact h
end
section
variable {X : Cx} {Z : Zd} {a : Expr} {es : List Expr} {oa : Env → OE} {og : Env → OG}
theorem n_gnil : PA X [] (tG Z oGnil) := PA.imp pa_nil fun σ H Q ⟨F, env, g, h⟩ => h [] H F g (Ex.refl F) .nil
theorem n_gv (ha : PE X a (tE Z oa)) (hr : PA X es (tG Z og)) (hs : starEach (a :: es) X.env = (false, eval a X.env) :: starEach es X.env := by rfl) : PA X (a :: es) (tG Z (oGv oa og)) := by
  refine PA.imp (pa_cons ha hr hs) fun σ H Q ⟨F, env, g, h⟩ => ?_
  refine seqEG g h fun r1 env1 v1 H1 F1 g1 x1 rp1 h1 => ?_
  obtain ⟨F2, g2, x2, r2⟩ := g1.give rp1
  refine seqGG g2 (PostG.up x2 h1) fun as env3 vs H3 F3 g3 x3 rp3 h3 => ?_
  exact h3 (v1 :: vs) H3 F3 g3 (Ex.refl F3) (.cons (show Rep Z.G F3 v1 r1.fz from r2.mono x3) rp3)
theorem n_gs (i : Nat) {x : PySem.Str} {pos : Pos} (hr : PA X es (tG Z og)) (hN : X.N[i]? = some x := by rfl) (hv : Vis X.env.scope x := by first | exact Or.inl rfl | exact Or.inr (Or.inl rfl) | exact Or.inr (Or.inr rfl)) (hd : (x == ("__debug__" : PySem.Str)) = false := by decide)
    (hcd : (x == ("__classdict__" : PySem.Str)) = false := by decide) (hs : starEach ((.Name x pos) :: es) X.env = (false, eval (.Name x pos) X.env) :: starEach es X.env := by rfl) : PA X ((.Name x pos) :: es) (tG Z (oGs i og)) := by
  refine PA.imp (pa_cons (pe_var hN hv hd hcd) hr hs) fun σ H Q ⟨F, env, g, h⟩ => ?_
  unfold oGs at h
  split at h
  case isFalse => exact h.elim
  rename_i hh
  obtain ⟨v, hv⟩ := g.here hh
  refine ⟨v, hv, ?_⟩
  refine seqGG g h fun as env3 vs H3 F3 g3 x3 rp3 h3 => ?_
  exact h3 (v :: vs) H3 F3 g3 (Ex.refl F3) (.cons (show σ[i]? = some (some v) from hv) rp3)
theorem n_go (ha : PE X a (tE Z oa)) (hs : starEach [a] X.env = (false, eval a X.env) :: starEach [] X.env := by rfl) : PA X [a] (tG Z (oGo oa)) := by
  refine PA.imp (pa_cons ha pa_nil hs) fun σ H Q ⟨F, env, g, h⟩ => ?_
  refine seqEG g h fun r1 env1 v1 H1 F1 g1 x1 rp1 h1 => ?_
  cases r1 with
  | sh d => exact h1.elim
  | ow ds => exact h1 [v1] H1 F1 g1 (Ex.refl F1) (.cons (show RepR Z F1 σ env1 H1 v1 (.ow ds) from rp1) .nil)
theorem n_callP {k n : Nat} {p : Nat} {f : List D → OC} {x : PySem.Str} {np pos : Pos} {e : Expr} (c : Cal X.prog X.w X.K X.mg X.base k x n [] (fun vs _ => vs) (spF Z.G Z.C n (some p) f)) (hx : RoomX k X) (tk : Takes X Z.W)
    (ha : PA X (e :: es) (tG Z og)) (hgl : Gl X x := by rfl)
    (hdb : (x == ("__debug__" : PySem.Str)) = false := by decide) (he : starEach (e :: es) X.env = (false, eval e X.env) :: starEach es X.env := by rfl)
    (hpl : ((backTo pos (starEach (e :: es) X.env)).any (·.1) || (backToKw pos (keywordEach [] X.env)).any (·.1.isNone)) = false := by rfl) :
    PE X (.Call (.Name x np) (e :: es) [] pos) (tE Z (oCallP f n p og)) := by
  refine PE.imp (pe_callN c hx hgl tk ha pk_nil rfl rfl hdb he hpl) fun σ H Q ⟨F, env, g, h⟩ => ?_
  refine seqGE g h fun as env1 vs H1 F1 g1 x1 r1 h1 => ?_
  split at h1
  case isFalse => exact h1.elim
  rename_i hl
  obtain ⟨hn, hp, hpl2⟩ := hl
  cases q : adsD env1 as with
  | none => rw [q] at h1; exact h1.elim
  | some ds =>
    rw [q] at h1
    dsimp only at h1
    have l1 : vs.length = n := r1.length.trans hn
    have ld := adsD_len q
    obtain ⟨ap, hap⟩ : ∃ ap, as[p]? = some ap := ⟨as[p]'(by omega), List.getElem?_eq_getElem _⟩
    obtain ⟨vp, hvp, rvp⟩ := r1.get hap
    obtain ⟨dp, hdp, hda⟩ := adsD_get q hap
    have shs : ∀ i d, (some p : Option Nat) ≠ some i → ds[i]? = some d → ∃ v, vs[i]? = some v ∧ Rep Z.G F1 v d := by
      intro i d ne e
      have hi : i < as.length := by
        have := (List.getElem?_eq_some_iff.mp e).1
        omega
      obtain ⟨d1, k1⟩ := adPl_v p as hpl2 i as[i] (List.getElem?_eq_getElem hi) (fun z => ne (by rw [z]))
      obtain ⟨v, m1, m2⟩ := r1.get (List.getElem?_eq_getElem hi)
      obtain ⟨d2, m3, m4⟩ := adsD_get q (List.getElem?_eq_getElem hi)
      rw [k1] at m2 m4
      rw [e] at m3
      cases m3
      cases m4
      exact ⟨v, m1, m2⟩
    refine ⟨l1, rfl, ?_⟩
    cases ap with
    | v d => exact absurd rfl (adPl_p p as hpl2 _ hap d)
    | slot i =>
      rw [hap] at h1
      have rvp : σ[i]? = some (some vp) := rvp
      cases qo : env1[i]?.bind Own with
      | none =>
        unfold adD at hda
        dsimp only at hda
        rw [qo] at hda
        cases hda
      | some es0 =>
        unfold adD at hda
        dsimp only at hda
        rw [qo] at hda
        cases hda
        obtain ⟨s, hs, ho⟩ : ∃ s, env1[i]? = some s ∧ Own s = some es0 := by
          cases z : env1[i]? with
          | none => rw [z] at qo; cases qo
          | some s => rw [z] at qo; exact ⟨s, rfl, qo⟩
        obtain ⟨b, ws, b1, b2, b3, b4, b5⟩ := g1.ow i s es0 hs ho
        rw [rvp] at b1
        cases b1
        refine ⟨F1, ds, [b], l1, ⟨g1.fh, by rw [ld]; exact r1.length, shs, fun p' e => ?_, fun z => by cases z⟩, ?_⟩
        · cases e
          exact ⟨b, ws, es0, hvp, hdp, b2, b3, b4, rfl⟩
        · cases qf : f ds with
          | bad => rw [qf] at h1; exact h1
          | ret r out =>
            rw [qf] at h1
            dsimp only at h1
            cases qs : setOwn env1 i out with
            | none => rw [qs] at h1; exact h1.elim
            | some env2 =>
              rw [qs] at h1
              exact fun v H' F' bk rr => h1 v H' F' (g1.calleeS bk hs ho rvp qs) bk.ff (retOk_rep g1 (setOwn_own qs) rr)
          | exc x out =>
            rw [qf] at h1
            dsimp only at h1
            cases qs : setOwn env1 i out with
            | none => rw [qs] at h1; exact h1.elim
            | some env2 =>
              rw [qs] at h1
              exact fun cls d H' F' bk rx => h1 cls d H' F' (g1.calleeS bk hs ho rvp qs) bk.ff rx
    | own es0 =>
      rw [hap] at h1
      obtain ⟨b, ws, rfl, b1, b2, b3, b4, b5⟩ := rvp
      cases hda
      have hno : ∀ a ∈ [b], ¬ OwnedAt σ env1 a := fun a ha => by
        rw [List.mem_singleton.mp ha]
        rintro ⟨i, s, e1, e2, e3⟩
        exact b5 i s e1 e2 e3
      have h0 : ∀ a ∈ [b], Z.H0 a = none := fun a ha => by
        rw [List.mem_singleton.mp ha]
        exact b4
      refine ⟨F1, ds, [b], l1, ⟨g1.fh, by rw [ld]; exact r1.length, shs, fun p' e => ?_, fun z => by cases z⟩, ?_⟩
      · cases e
        exact ⟨b, ws, es0, hvp, hdp, b1, b2, b3, rfl⟩
      · cases qf : f ds with
        | bad => rw [qf] at h1; exact h1
        | ret r out =>
          rw [qf] at h1
          exact fun v H' F' bk rr => h1 v H' F' (g1.callee bk h0 hno) bk.ff (retOk_rep g1 (fun j s e1 e2 => ⟨s, e1, e2⟩) rr)
        | exc x out =>
          rw [qf] at h1
          exact fun cls d H' F' bk rx => h1 cls d H' F' (g1.callee bk h0 hno) bk.ff rx
end
end FE

namespace FE
open PySem PySem.Spec PyProof.Rows L2

/-! ### built-in functions by name, constants -/
section
variable {X : Cx} {Z : Zd} {a b e : Expr} {es : List Expr} {oa ob : Env → OE} {os : Env → OA}
theorem n_cb {id : String} {x : PySem.Str} {p pos : Pos} {r : List V → Hp → VK → Prop} {f : List D → Option R} (hc : CallR X (.builtin id) r) (hs : SCall Z.G r f) (hm : X.mg x = none) (ha : PA X (e :: es) (tA Z os)) (hg : Gl X x := by rfl) (hv : bootBuiltins x = some (.builtin id) := by decide +kernel)
    (hn : x ≠ "__name__" := by decide) (hdb : (x == ("__debug__" : PySem.Str)) = false := by decide) (he : starEach (e :: es) X.env = (false, eval e X.env) :: starEach es X.env := by rfl) (hpl : (backTo pos (starEach es X.env)).any (·.1) = false := by rfl) :
    PE X (.Call (.Name x p) (e :: es) [] pos) (tE Z (oCallB f os)) :=
  PE.imp (pe_callB hc hg hm hv ha hn hdb he hpl) fun σ H Q h => callB_to hs h
theorem n_ct {T : String} {x : PySem.Str} {p pos : Pos} {r : List V → Hp → VK → Prop} {f : List D → Option R} (hc : CallR X (.type T) r) (hs : SCall Z.G r f) (hm : X.mg x = none) (ha : PA X (e :: es) (tA Z os)) (hg : Gl X x := by rfl) (hv : bootBuiltins x = some (.type T) := by decide +kernel)
    (hn : x ≠ "__name__" := by decide) (hdb : (x == ("__debug__" : PySem.Str)) = false := by decide) (he : starEach (e :: es) X.env = (false, eval e X.env) :: starEach es X.env := by rfl) (hpl : (backTo pos (starEach es X.env)).any (·.1) = false := by rfl) :
    PE X (.Call (.Name x p) (e :: es) [] pos) (tE Z (oCallB f os)) :=
  PE.imp (pe_callTy hc hg hm hv ha hn hdb he hpl) fun σ H Q h => callB_to hs h
theorem n_cg {id : String} {x : PySem.Str} {p pos : Pos} {r : List V → Hp → VK → Prop} {f : List D → Option R} (hc : CallR X (.builtin id) r) (hs : SCall Z.G r f) (hm : X.mg x = some (.builtin id)) (ha : PA X (e :: es) (tA Z os)) (hg : Gl X x := by rfl)
    (hdb : (x == ("__debug__" : PySem.Str)) = false := by decide) (he : starEach (e :: es) X.env = (false, eval e X.env) :: starEach es X.env := by rfl) (hpl : (backTo pos (starEach es X.env)).any (·.1) = false := by rfl) :
    PE X (.Call (.Name x p) (e :: es) [] pos) (tE Z (oCallB f os)) :=
  PE.imp (pe_callBfun hc hg hm ha hdb he hpl) fun σ H Q h => callB_to hs h
/-- a module's name for plain data -/
theorem n_gc {x : PySem.Str} {pos : Pos} {v : V} {d : D} (h : ∃ u, X.mg x = some u ∧ RelV v u) (r : ∀ F, Rep Z.G F v d) (hg : Gl X x := by rfl) (hd : (x == ("__debug__" : PySem.Str)) = false := by decide) : PE X (.Name x pos) (tE Z (oC d)) := by
  obtain ⟨u, hm, ru⟩ := h
  exact n_c (pe_glob hg hm ru hd) r

/-! ### slices -/
def cutL {α : Type} (xs : List α) (lo hi : Option Int) : List α := (xs.drop (HT.sIx xs.length 0 lo)).take (HT.sIx xs.length xs.length hi - HT.sIx xs.length 0 lo)
def sliceF : D → Option Int → Option Int → Option R
  | .lst ds, lo, hi => some (.ow (cutL ds lo hi))
  | .tup ds, lo, hi => some (.sh (.tup (cutL ds lo hi)))
  | .str x, lo, hi => if x.length ≤ 1000000 then some (.sh (.str (cutS x lo hi))) else none
  | _, _, _ => none
/-- t[lo:hi]: the whole of it is t itself -/
def rSlN (K : PySem.W.Frag) : V → Option Int → Option Int → Hp → VK → Prop := fun x lo hi H Q => ∃ a xs, x = .ref a ∧ SqT K H a xs ∧
  (HT.sIx xs.length 0 lo = 0 ∧ HT.sIx xs.length xs.length hi = xs.length → Q (.ref a) H) ∧ (¬ (HT.sIx xs.length 0 lo = 0 ∧ HT.sIx xs.length xs.length hi = xs.length) → ∀ (p : Addr) (o : Obj), H p = none → o.dict = none → Q (.ref p) (upd H p (.frz o (.tup (cutV xs lo hi)))))
theorem sl_tupN {X : Cx} : SlR X (rSlN X.K) := by
  intro pins s σ H x v vl vu lo hi sl Q I rx hs pl pu h
  obtain ⟨a, xs, rfl, hx, q1, q2⟩ := h
  cases rx
  obtain ⟨its, r, ht, hz⟩ := I.tuple hx
  have hlen : its.toArray.size = xs.length := by rw [List.size_toArray]; exact r.length.symm
  refine ⟨"tuple", _, PyProof.Rows.slot_tuple_getitem.lookup, ht.typeIs, ?_⟩
  by_cases hw : HT.sIx xs.length 0 lo = 0 ∧ HT.sIx xs.length xs.length hi = xs.length
  · exact getItem_tuple_whole ht hs pl pu (by rw [hlen]; exact hw) ⟨.ref a, H, I, rfl, q1 hw⟩
  · refine HT.getItem_tuple_cut ht hs pl pu (by rw [hlen]; exact hw) ?_ (by rw [hlen]; exact hz)
    rw [hlen]
    refine ⟨.ref s.heap.objs.size, _, I.laid (t' := s.toks) (o := .frz { cls := .type "tuple", data := .seq (List.take (HT.sIx xs.length xs.length hi - HT.sIx xs.length 0 lo) (List.drop (HT.sIx xs.length 0 lo) its.toArray.toList)).toArray } (.tup (cutV xs lo hi))) (fun b ob q => Heap.get?_push_of_some _ q) (Nat.le_refl _) ?_, rfl, q2 hw _ _ (I.hok.fresh (Nat.le_refl _)) rfl⟩
    exact ⟨Heap.get?_push_size _ rfl, Nat.le_trans (cutV_length xs lo hi) hz, _, (r.drop (HT.sIx xs.length 0 lo)).take (HT.sIx xs.length xs.length hi - HT.sIx xs.length 0 lo), IsTup.new _ _⟩
def rSlU (K : PySem.W.Frag) : V → Option Int → Option Int → Hp → VK → Prop := fun x lo hi H Q => rSlL K x lo hi H Q ∨ (fun x lo hi H Q => rSlN K x lo hi H Q ∨ rSlS x lo hi H Q : V → Option Int → Option Int → Hp → VK → Prop) x lo hi H Q
theorem sl_U {X : Cx} : SlR X (rSlU X.K) := sl_list.or (sl_tupN.or sl_str)
theorem RepL.cut {G : Gd} {F : Hp} {vs : List V} {ds : List D} (h : RepL G F vs ds) (lo hi : Option Int) : RepL G F (cutV vs lo hi) (cutL ds lo hi) := by
  unfold cutV cutL
  rw [h.length]
  exact (h.drop _).take _
def SSl (G : Gd) (r : V → Option Int → Option Int → Hp → VK → Prop) (f : D → Option Int → Option Int → Option R) : Prop := ∀ (Z : Zd) (F : Hp) (σ : L2.St) (H : Hp) (env : Env) (x : V) (d : D) (lo hi : Option Int) (z : R) (Q : VK), Z.G = G → Good Z F σ H env → Rep Z.G F x d → f d lo hi = some z →
  (∀ v H' F', Good Z F' σ H' env → Ex F F' → RepR Z F' σ env H' v z → Q v H') → r x lo hi H Q
theorem cut_whole {α : Type} {xs : List α} {lo hi : Option Int} (h : HT.sIx xs.length 0 lo = 0 ∧ HT.sIx xs.length xs.length hi = xs.length) : cutL xs lo hi = xs := by
  unfold cutL
  rw [h.1, h.2, List.drop_zero, Nat.sub_zero, List.take_length]
theorem s_slice {G : Gd} : SSl G (rSlU G.K) sliceF := by
  intro Z F σ H env x d lo hi z Q hG g rx h q
  subst hG
  cases d <;> try cases h
  case lst ds =>
    cases rx with
    | lst h1 h2 =>
      refine .inl ⟨_, _, rfl, (g.fh.lr h1).sq, fun p hp => ?_⟩
      exact q _ _ _ (g.lay hp) (Ex.refl F) (g.mine hp (h2.cut lo hi))
  case tup ds =>
    cases rx with
    | @tup a vs ds h1 h2 =>
      refine .inr (.inl ⟨_, _, rfl, g.fh.t h1.t, fun hw => ?_, fun hw p o hp ho => ?_⟩)
      · have hw' := hw
        rw [h2.length] at hw'
        exact q _ _ F g (Ex.refl F) (show Rep Z.G F (.ref a) (.tup (cutL ds lo hi)) by rw [cut_whole hw']; exact .tup h1 h2)
      · exact q _ _ _ (g.layF hp) (Ex.new (g.fresh hp)) (.tup (.new ho) ((h2.cut lo hi).mono (Ex.new (g.fresh hp))))
  case str y =>
    have h : (if y.length ≤ 1000000 then some (R.sh (.str (cutS y lo hi))) else none) = some z := h
    split at h
    · rename_i c
      cases h
      cases rx
      exact .inr (.inr ⟨y, rfl, Nat.le_trans c big_line, q _ H F g (Ex.refl F) (.str _)⟩)
    · cases h
def oPI (oa : Env → OE) : Env → OE := fun env => (oa env).bind fun r e1 => match r.fz with
  | .int i => .ok (.sh (.int i)) e1
  | _ => .bad
def partO : D → Option (Option Int)
  | .non => some none
  | .int i => some (some i)
  | _ => none
def tP (Z : Zd) (o : Env → OE) : TO := fun σ H Q => tE Z o σ H fun v H1 => ∀ l, ((v = .non ∧ l = none) ∨ ∃ i, v = .int i ∧ l = some i) → Q l H1
theorem PO.imp {X : Cx} {e : Option Expr} {t t' : TO} (h : PO X e t) (i : ∀ σ H Q, t' σ H Q → t σ H Q) : PO X e t' := ⟨fun pins s σ H Q I q => h.run pins s σ H Q I (i σ H Q q)⟩
theorem n_pnone : PO X none (tP Z (oC .non)) := PO.imp po_none fun σ H Q ⟨F, env, g, h⟩ => h .non H F g (Ex.refl F) .non none (.inl ⟨rfl, rfl⟩)
theorem int_of {G : Gd} {F : Hp} {v : V} {b : Int} (h : Rep G F v (.int b)) : v = .int b := by
  cases h
  rfl
theorem non_of {G : Gd} {F : Hp} {v : V} (h : Rep G F v .non) : v = .non := by
  cases h
  rfl
theorem n_psome (ha : PE X a (tE Z oa)) : PO X (some a) (tP Z (oPI oa)) := by
  refine PO.imp (po_some ha) fun σ H Q ⟨F, env, g, h⟩ => ?_
  refine seqE (Q := fun v H1 => ∀ l, ((v = .non ∧ l = none) ∨ ∃ i, v = .int i ∧ l = some i) → Q l H1) g h fun r env1 v H1 F1 g1 x1 r1 h1 => ?_
  generalize r.fz = d at h1 r1
  cases d <;> try exact h1.elim
  rename_i i
  obtain rfl := int_of r1
  exact ⟨i, rfl, h1 (.int i) H1 F1 g1 (Ex.refl F1) (.int i) (some i) (.inr ⟨i, rfl, rfl⟩)⟩
def oSl (f : D → Option Int → Option Int → Option R) (oa ol oh : Env → OE) : Env → OE := fun env => (oa env).bind fun r1 e1 => (ol e1).bind fun r2 e2 => (oh e2).bind fun r3 e3 => match partO r2.fz, partO r3.fz with
  | some l, some h => match f r1.fz l h with
    | some z => .ok z e3
    | none => .bad
  | _, _ => .bad
/-- a part comes -/
theorem seqP {F H : Hp} {σ : L2.St} {env : Env} {Q : VK} {o : Env → OE} {f : R → Env → OE} {k : Option Int → Hp → Prop} (g : Good Z F σ H env) (h : PostE Z F σ Q ((o env).bind f))
    (c : ∀ r env1 l H1 F1, Good Z F1 σ H1 env1 → Ex F F1 → (∀ l', partO r.fz = some l' → l' = l) → PostE Z F1 σ Q (f r env1) → k l H1) : tP Z o σ H k := by
  refine seqE g h fun r env1 v H1 F1 g1 x1 r1 h1 l hl => ?_
  refine c r env1 l H1 F1 g1 x1 (fun l' e => ?_) h1
  generalize r.fz = d at e r1
  cases d <;> cases e
  · obtain rfl := non_of r1
    rcases hl with ⟨_, rfl⟩ | ⟨i, z, _⟩
    · rfl
    · cases z
  · obtain rfl := int_of r1
    rcases hl with ⟨z, _⟩ | ⟨i, z, rfl⟩
    · cases z
    · cases z
      rfl
theorem n_slice {r : V → Option Int → Option Int → Hp → VK → Prop} {f : D → Option Int → Option Int → Option R} {lo hi : Option Expr} {ol oh : Env → OE} {p2 pos : Pos} (hr : SlR X r) (hs : SSl Z.G r f) (ha : PE X a (tE Z oa)) (hl : PO X lo (tP Z ol)) (hh : PO X hi (tP Z oh)) :
    PE X (.Subscript a (.Slice lo hi none p2) pos) (tE Z (oSl f oa ol oh)) := by
  refine PE.imp (pe_slice hr ha hl hh) fun σ H Q ⟨F, env, g, h⟩ => ?_
  refine seqE g h fun r1 env1 v1 H1 F1 g1 x1 rp1 h1 => ?_
  refine seqP g1 h1 fun r2 env2 l H2 F2 g2 x2 e2 h2 => ?_
  refine seqP g2 h2 fun r3 env3 u H3 F3 g3 x3 e3 h3 => ?_
  cases q2 : partO r2.fz with
  | none => rw [q2] at h3; exact h3.elim
  | some l' =>
    cases q3 : partO r3.fz with
    | none => rw [q2, q3] at h3; exact h3.elim
    | some u' =>
      rw [q2, q3] at h3
      obtain rfl := e2 _ q2
      obtain rfl := e3 _ q3
      dsimp only at h3
      cases q : f r1.fz l' u' with
      | none => rw [q] at h3; exact h3.elim
      | some z =>
        rw [q] at h3
        exact hs Z F3 σ H3 env3 v1 _ l' u' z Q rfl g3 (rp1.mono (x2.trans x3)) q h3
/-! a slice of a list with a step -/
def pickL {α : Type} (xs : List α) (lo hi st : Option Int) : List α := (sliceRange (sliceBounds lo hi st xs.length).1 (sliceBounds lo hi st xs.length).2.1 (sliceBounds lo hi st xs.length).2.2).filterMap (xs[·]?)
theorem RepL.picks {G : Gd} {F : Hp} {vs : List V} {ds : List D} (h : RepL G F vs ds) : ∀ is : List Nat, RepL G F (is.filterMap (vs[·]?)) (is.filterMap (ds[·]?))
  | [] => .nil
  | i :: is => by
    rw [List.filterMap_cons, List.filterMap_cons]
    cases q : ds[i]? with
    | none =>
      have : vs[i]? = none := by
        rw [List.getElem?_eq_none_iff, h.length]
        exact List.getElem?_eq_none_iff.mp q
      rw [this]
      exact RepL.picks h is
    | some d =>
      obtain ⟨v, h1, h2⟩ := h.get q
      rw [h1]
      exact .cons h2 (RepL.picks h is)
theorem RepL.pick {G : Gd} {F : Hp} {vs : List V} {ds : List D} (h : RepL G F vs ds) (lo hi st : Option Int) : RepL G F (pickL vs lo hi st) (pickL ds lo hi st) := by
  unfold pickL
  rw [h.length]
  exact h.picks _
theorem vals_picks {vs : List V} {us : List Value} (h : Vals vs us) : ∀ is : List Nat, Vals (is.filterMap (vs[·]?)) (is.filterMap (us[·]?))
  | [] => .nil
  | i :: is => by
    rw [List.filterMap_cons, List.filterMap_cons]
    cases q : vs[i]? with
    | none =>
      have : us[i]? = none := by
        rw [List.getElem?_eq_none_iff, ← h.length]
        exact List.getElem?_eq_none_iff.mp q
      rw [this]
      exact vals_picks h is
    | some d =>
      obtain ⟨v, h1, h2⟩ := h.get q
      rw [h1]
      exact .cons h2 (vals_picks h is)
def tSl3 (K : PySem.W.Frag) (te : TE) (tl th ts : TO) : TE := fun σ H Q => te σ H fun x H1 => tl σ H1 fun l H2 => th σ H2 fun u H3 => ts σ H3 fun c H4 => c ≠ some 0 ∧ ∃ a xs, x = .ref a ∧ SqL K H4 a xs ∧ ∀ p, H4 p = none → Q (.ref p) (upd H4 p (.lst (pickL xs l u c)))
theorem pe_slice3 {te : TE} {tl th ts : TO} {lo hi : Option Expr} {sc : Expr} {p2 pos : Pos} (he : PE X e te) (hl : PO X lo tl) (hu : PO X hi th) (hs : PO X (some sc) ts) : PE X (.Subscript e (.Slice lo hi (some sc) p2) pos) (tSl3 X.K te tl th ts) := by
  constructor
  intro pins s σ H Q I h
  apply Subscript_
  refine thn (he.run pins s σ H _ I h) ?_
  rintro v s1 ⟨x, H1, I1, r1, q1⟩
  apply wpAny_Slice
  refine thn (hl.run pins s1 σ H1 _ I1 q1) ?_
  rintro vl s2 ⟨l, H2, I2, pl, q2⟩
  refine thn (hu.run pins s2 σ H2 _ I2 q2) ?_
  rintro vu s3 ⟨u, H3, I3, pu, q3⟩
  refine thn (hs.run pins s3 σ H3 _ I3 q3) ?_
  rintro vc s4 ⟨c, H4, I4, pc, hc, a, xs, rfl, hx, q4⟩
  have grown : ∀ (b : Addr) (ob : Obj), s4.heap.get? b = some ob → (s4.heap.push { cls := .type "slice", data := .fields #[vl, vu, vc] }).get? b = some ob := fun b ob z => Heap.get?_push_of_some _ z
  have I5 : Inv X pins σ H4 ⟨s4.heap.push { cls := .type "slice", data := .fields #[vl, vu, vc] }, s4.gens, s4.drawn, s4.toks, s4.os⟩ := I4.kept (t' := s4.toks) grown
  cases r1
  obtain ⟨its, r, ht, hz⟩ := I5.list hx
  have hlen := r.length
  refine tail_any (T := "list") (ops := [.ref a, .ref s4.heap.objs.size]) ht.isList.typeIs slot_list_getitem.lookup ?_ (by with_unfolding_all rfl)
  have hlz : its.toArray.size ≤ sizeLine := by
    rw [List.size_toArray]
    omega
  refine wpAny_getItem_list_slice ht.isList (Heap.IsSliceOf.new ..) pl pu pc hc ?_ hlz
  have ek : (slicePick its.toArray l u c) = (pickL its l u c).toArray := by
    unfold slicePick pickL
    simp only [List.size_toArray, List.getElem?_toArray]
  have vk : Vals (pickL xs l u c) (pickL its l u c) := by
    unfold pickL
    rw [hlen]
    exact vals_picks r _
  rw [ek]
  have sz := slicePick_size_le its.toArray l u c
  rw [ek, List.size_toArray, List.size_toArray] at sz
  refine ⟨.ref _, _, I5.laid (t' := s4.toks) (o := .lst (pickL xs l u c)) (fun b ob z => Heap.get?_push_of_some _ z) (Nat.le_refl _) ?_, rfl, q4 _ (I5.hok.fresh (Nat.le_refl _))⟩
  refine ⟨?_, _, 0, vk, Heap.get?_push_size _ rfl⟩
  rw [vk.length]
  omega
def oSl3 (oa ol oh oc : Env → OE) : Env → OE := fun env => (oa env).bind fun r1 e1 => (ol e1).bind fun r2 e2 => (oh e2).bind fun r3 e3 => (oc e3).bind fun r4 e4 => match r1.fz, partO r2.fz, partO r3.fz, partO r4.fz with
  | .lst ds, some l, some h, some c => if c = some 0 then .bad else .ok (.ow (pickL ds l h c)) e4
  | _, _, _, _ => .bad
theorem n_slice3 {lo hi : Option Expr} {sc : Expr} {ol oh oc : Env → OE} {p2 pos : Pos} (hK : Z.G.K = X.K) (ha : PE X a (tE Z oa)) (hl : PO X lo (tP Z ol)) (hh : PO X hi (tP Z oh)) (hc : PO X (some sc) (tP Z oc)) : PE X (.Subscript a (.Slice lo hi (some sc) p2) pos) (tE Z (oSl3 oa ol oh oc)) := by
  refine PE.imp (pe_slice3 ha hl hh hc) fun σ H Q ⟨F, env, g, h⟩ => ?_
  refine seqE g h fun r1 env1 v1 H1 F1 g1 x1 rp1 h1 => ?_
  refine seqP g1 h1 fun r2 env2 l H2 F2 g2 x2 e2 h2 => ?_
  refine seqP g2 h2 fun r3 env3 u H3 F3 g3 x3 e3 h3 => ?_
  refine seqP g3 h3 fun r4 env4 c H4 F4 g4 x4 e4 h4 => ?_
  generalize r1.fz = d at h4 rp1
  cases d <;> try exact h4.elim
  rename_i ds
  cases q2 : partO r2.fz with
  | none => rw [q2] at h4; exact h4.elim
  | some l' =>
    cases q3 : partO r3.fz with
    | none => rw [q2, q3] at h4; exact h4.elim
    | some u' =>
      cases q4 : partO r4.fz with
      | none => rw [q2, q3, q4] at h4; exact h4.elim
      | some c' =>
        rw [q2, q3, q4] at h4
        obtain rfl := e2 _ q2
        obtain rfl := e3 _ q3
        obtain rfl := e4 _ q4
        dsimp only at h4
        split at h4
        · exact h4.elim
        · rename_i hc0
          cases rp1 with
          | lst k1 k2 =>
            refine ⟨hc0, _, _, rfl, ?_, fun p hp => h4 _ _ _ (g4.lay hp) (Ex.refl F4) (g4.mine hp ((k2.pick l' u' c').mono (x2.trans (x3.trans x4))))⟩
            rw [← hK]
            exact (g4.fh.lr ((x2.trans (x3.trans x4)).lr k1)).sq
end
end FE

namespace FE
open PySem PySem.Spec PyProof.Rows L2

/-! ### zip, reversed -/
theorem zip_get : ∀ (ds es : List D) (k : Nat) (x : D), (zipD ds es)[k]? = some x → ∃ d e, ds[k]? = some d ∧ es[k]? = some e ∧ x = .wtp [d, e]
  | [], _, _, _, h => by simp [zipD] at h
  | _ :: _, [], _, _, h => by simp [zipD] at h
  | d :: ds, e :: es, 0, x, h => by
    simp [zipD] at h
    exact ⟨d, e, rfl, rfl, h.symm⟩
  | d :: ds, e :: es, k + 1, x, h => by
    obtain ⟨d', e', h1, h2, h3⟩ := zip_get ds es k x (by simpa [zipD] using h)
    exact ⟨d', e', by simpa using h1, by simpa using h2, h3⟩
theorem zip_len : ∀ (ds es : List D), (zipD ds es).length = min ds.length es.length
  | [], _ => by simp [zipD]
  | _ :: _, [] => by simp [zipD]
  | d :: ds, e :: es => by simp [zipD, zip_len ds es]
section
variable {G : Gd} {F : Hp}
theorem it_zip {a b : Addr} {vs ws : List V} {ds es : List D} (h : Lr G.K F a vs) (r : RepL G F vs ds) (h' : Lr G.K F b ws) (r' : RepL G F ws es) : ItRep G (Itz G.K a b) F (zipD ds es) where
  go := fun k F1 H1 e1 e2 hk => by
    rw [zip_len] at hk
    obtain ⟨v, hv, _⟩ := r.get (List.getElem?_eq_getElem (show k < ds.length by omega))
    obtain ⟨w, hw, _⟩ := r'.get (List.getElem?_eq_getElem (show k < es.length by omega))
    exact ⟨vs, ws, v, w, ((e1.trans e2).lr h).sq, ((e1.trans e2).lr h').sq, hv, hw⟩
  stop := fun k F1 H1 e1 e2 hk => by
    rw [zip_len] at hk
    refine ⟨vs, ws, ((e1.trans e2).lr h).sq, ((e1.trans e2).lr h').sq, ?_⟩
    rw [r.length, r'.length]
    omega
  yld := fun k d F1 H1 x H2 e1 e2 hd hy => by
    obtain ⟨T, x', y', rfl, hT, rfl, f1, f2⟩ := hy
    obtain ⟨d1, d2, g1, g2, rfl⟩ := zip_get ds es k d hd
    obtain ⟨v, hv, rv⟩ := r.get g1
    obtain ⟨w, hw, rw'⟩ := r'.get g2
    have z1 := f1 vs ((e1.trans e2).lr h).sq
    have z2 := f2 ws ((e1.trans e2).lr h').sq
    rw [hv] at z1
    rw [hw] at z2
    cases z1
    cases z2
    have fT : F1 T = none := by
      cases q : F1 T with
      | none => rfl
      | some o =>
        rw [e2 T o q] at hT
        cases hT
    exact .inr ⟨T, _, hT, rfl, .wtp (.inl (.inl upd_same)) (.cons ((rv.mono e1).mono (Ex.new fT)) (.cons ((rw'.mono e1).mono (Ex.new fT)) .nil))⟩
theorem it_zipT {a b : Addr} {vs ws : List V} {ds es : List D} (h : SqT G.K F a vs) (r : RepL G F vs ds) (h' : SqT G.K F b ws) (r' : RepL G F ws es) : ItRep G (RZ.ItzT G.K a b) F (zipD ds es) where
  go := fun k F1 H1 e1 e2 hk => by
    rw [zip_len] at hk
    obtain ⟨v, hv, _⟩ := r.get (List.getElem?_eq_getElem (show k < ds.length by omega))
    obtain ⟨w, hw, _⟩ := r'.get (List.getElem?_eq_getElem (show k < es.length by omega))
    exact ⟨vs, ws, v, w, (e1.trans e2).t h, (e1.trans e2).t h', hv, hw⟩
  stop := fun k F1 H1 e1 e2 hk => by
    rw [zip_len] at hk
    refine ⟨vs, ws, (e1.trans e2).t h, (e1.trans e2).t h', ?_⟩
    rw [r.length, r'.length]
    omega
  yld := fun k d F1 H1 x H2 e1 e2 hd hy => by
    obtain ⟨T, x', y', rfl, hT, rfl, f1, f2⟩ := hy
    obtain ⟨d1, d2, g1, g2, rfl⟩ := zip_get ds es k d hd
    obtain ⟨v, hv, rv⟩ := r.get g1
    obtain ⟨w, hw, rw'⟩ := r'.get g2
    have z1 := f1 vs ((e1.trans e2).t h)
    have z2 := f2 ws ((e1.trans e2).t h')
    rw [hv] at z1
    rw [hw] at z2
    cases z1
    cases z2
    have fT : F1 T = none := by
      cases q : F1 T with
      | none => rfl
      | some o =>
        rw [e2 T o q] at hT
        cases hT
    exact .inr ⟨T, _, hT, rfl, .wtp (.inl (.inl upd_same)) (.cons ((rv.mono e1).mono (Ex.new fT)) (.cons ((rw'.mono e1).mono (Ex.new fT)) .nil))⟩
theorem rev_get {α : Type} {xs : List α} {k : Nat} {x : α} (h : xs.reverse[k]? = some x) : k < xs.length ∧ xs[xs.length - 1 - k]? = some x := by
  have hk : k < xs.length := by
    have := (List.getElem?_eq_some_iff.mp h).1
    rw [List.length_reverse] at this
    exact this
  rw [List.getElem?_reverse hk] at h
  exact ⟨hk, h⟩
theorem it_rev {a : Addr} {vs : List V} {ds : List D} (h : Lr G.K F a vs) (r : RepL G F vs ds) : ItRep G (Itv G.K a vs.length) F ds.reverse where
  go := fun k F1 H1 e1 e2 hk => by
    rw [List.length_reverse, ← r.length] at hk
    refine ⟨hk, vs, vs[vs.length - 1 - k]'(by omega), ((e1.trans e2).lr h).sq, List.getElem?_eq_getElem _⟩
  stop := fun k F1 H1 e1 e2 hk => by
    rw [List.length_reverse, ← r.length] at hk
    exact hk
  yld := fun k d F1 H1 x H2 e1 e2 hd hy => by
    obtain ⟨rfl, f⟩ := hy
    obtain ⟨h1, h2⟩ := rev_get hd
    obtain ⟨v, hv, rv⟩ := r.get h2
    have := f vs ((e1.trans e2).lr h).sq
    rw [r.length, hv] at this
    cases this
    exact .inl ⟨rfl, rv.mono e1⟩
theorem it_revT {a : Addr} {vs : List V} {ds : List D} (h : SqT G.K F a vs) (r : RepL G F vs ds) : ItRep G (RT.ItvT G.K a vs.length) F ds.reverse where
  go := fun k F1 H1 e1 e2 hk => by
    rw [List.length_reverse, ← r.length] at hk
    refine ⟨hk, vs, vs[vs.length - 1 - k]'(by omega), (e1.trans e2).t h, List.getElem?_eq_getElem _⟩
  stop := fun k F1 H1 e1 e2 hk => by
    rw [List.length_reverse, ← r.length] at hk
    exact hk
  yld := fun k d F1 H1 x H2 e1 e2 hd hy => by
    obtain ⟨rfl, f⟩ := hy
    obtain ⟨h1, h2⟩ := rev_get hd
    obtain ⟨v, hv, rv⟩ := r.get h2
    have := f vs ((e1.trans e2).t h)
    rw [r.length, hv] at this
    cases this
    exact .inl ⟨rfl, rv.mono e1⟩
end
def iZp (os : Env → OA) : Env → OI := fun env => (os env).bindI fun ds e1 => match ds with
  | [.lst ds, .lst es] => .ok (zipD ds es) e1
  | [.tup ds, .tup es] => .ok (zipD ds es) e1
  | _ => .bad
def iRv (oa : Env → OE) : Env → OI := fun env => (oa env).bindI fun r e1 => match r.fz with
  | .lst ds => .ok ds.reverse e1
  | .tup ds => .ok ds.reverse e1
  | _ => .bad
def sPar (i j : Nat) (os : Env → OA) : Env → OS := fun env => match os env with
  | .ok [d, e] e1 => if noIo e1[i]? = true ∧ noIo e1[j]? = true then .nx ((e1.set i (.sh d)).set j (.sh e)) else .bad
  | .exc x e1 => .exc x e1
  | _ => .bad
def itemsL : D → Option (List D)
  | .lst ds => some ds
  | .tup ds => some ds
  | _ => none
def joinF (a : PySem.Str) (d : D) : Option R := match itemsL d with
  | some ds => match strsD ds with
    | some ys => if (ys.map (·.length)).sum + ys.length * a.length ≤ 16777216 then some (.sh (.str (Txt.join a ys))) else none
    | none => none
  | none => none
def joinG (r : R) (ob : Env → OE) (e1 : Env) : OE := match r.fz with
  | .str a => (ob e1).bind fun r2 e2 => match joinF a r2.fz with
    | some z => .ok z e2
    | none => .bad
  | _ => .bad
def oJoin (oa ob : Env → OE) : Env → OE := fun env => (oa env).bind fun r1 e1 => joinG r1 ob e1
section
variable {X : Cx} {Z : Zd} {a b tg : Expr} {oa ob : Env → OE} {os : Env → OA} {p pos tpos : Pos} {elts : List Expr} {kk : Nat}
theorem n_zip (hm : X.mg "zip" = none) (hK : Z.G.K = X.K) (ha : PA X [a, b] (tA Z os)) (hg : Gl X "zip" := by rfl) (hs : starEach [a, b] X.env = (false, eval a X.env) :: starEach [b] X.env := by rfl) (hpl : (backTo pos (starEach [b] X.env)).any (·.1) = false := by rfl) :
    PI X (.Tuple elts kk tpos) (.Call (.Name "zip" p) [a, b] [] pos) (tI Z (iZp os)) := by
  refine PI.imp (RZ.pi_zipA hg hm ha hs hpl) fun σ H Q ⟨F, env, g, h⟩ => ?_
  refine seqAI g h fun ds env1 vs H1 F1 g1 x1 r1 h1 => ?_
  rw [← hK]
  split at h1
  · obtain ⟨v, w, rfl, rv, rw'⟩ := r1.two
    cases rv with
    | lst l1 l2 =>
      cases rw' with
      | lst m1 m2 => exact ⟨_, _, _, _, rfl, .inl ⟨(g1.fh.lr l1).sq, (g1.fh.lr m1).sq, h1 _ H1 F1 g1 (Ex.refl F1) (it_zip l1 l2 m1 m2)⟩⟩
  · obtain ⟨v, w, rfl, rv, rw'⟩ := r1.two
    cases rv with
    | tup l1 l2 =>
      cases rw' with
      | tup m1 m2 => exact ⟨_, _, _, _, rfl, .inr ⟨g1.fh.t l1.t, g1.fh.t m1.t, h1 _ H1 F1 g1 (Ex.refl F1) (it_zipT l1.t l2 m1.t m2)⟩⟩
  · exact h1.elim
theorem n_rev (hm : X.mg "reversed" = none) (hK : Z.G.K = X.K) (ha : PE X a (tE Z oa)) (hg : Gl X "reversed" := by rfl) (hs : starEach [a] X.env = (false, eval a X.env) :: starEach [] X.env := by rfl) : PI X tg (.Call (.Name "reversed" p) [a] [] pos) (tI Z (iRv oa)) := by
  refine PI.imp (RT.pi_revA hg hm ha hs) fun σ H Q ⟨F, env, g, h⟩ => ?_
  refine seqEI g h fun r env1 v H1 F1 g1 x1 r1 h1 => ?_
  rw [← hK]
  generalize r.fz = d at h1 r1
  cases d <;> try exact h1.elim
  · cases r1 with
    | tup l1 l2 => exact ⟨_, _, rfl, .inr ⟨g1.fh.t l1.t, h1 _ H1 F1 g1 (Ex.refl F1) (it_revT l1.t l2)⟩⟩
  · cases r1 with
    | lst l1 l2 => exact ⟨_, _, rfl, .inl ⟨(g1.fh.lr l1).sq, h1 _ H1 F1 g1 (Ex.refl F1) (it_rev l1 l2)⟩⟩
theorem n_par (i j : Nat) {x y : PySem.Str} {px py pt pt2 : Pos} {kt k2} (hN : X.N.Nodup) (ha : PA X [a, b] (tA Z os)) (hw : swappedStores [.Tuple [.Name x px, .Name y py] kt pt] (.Tuple [a, b] k2 pt2) X.env = pure (some [x, y])) (hc : X.calm = true := by rfl) (hi : X.N[i]? = some x := by rfl) (hj : X.N[j]? = some y := by rfl) (hij : i ≠ j := by decide)
    (hx : X.env.scope.names.lookup x = some .local := by rfl) (hy : X.env.scope.names.lookup y = some .local := by rfl)
    (hs : swapsWithSole [.Tuple [.Name x px, .Name y py] kt pt] (.Tuple [a, b] k2 pt2) pos.line X.env = pure false := by rfl) :
    PS X (.Assign [.Tuple [.Name x px, .Name y py] kt pt] (.Tuple [a, b] k2 pt2) pos) (tS Z (sPar i j os)) := by
  refine PS.imp (ps_par hc hN hi hj hij hx hy ha hw hs) fun Dn σ H ⟨F, env, g, h⟩ => ⟨F, env, g, ?_⟩
  unfold sPar at h
  cases e : os env with
  | bad => rw [e] at h; exact h.elim
  | exc x e1 => rw [e] at h; exact PostXS.at h
  | ok ds e1 =>
    rw [e] at h
    intro vs H1 F1 g1 x1 r1
    split at h
    · rename_i d e' e1' q
      cases q
      split at h
      · rename_i c
        obtain ⟨v, w, rfl, rv, rw'⟩ := r1.two
        refine ⟨v, w, rfl, ?_⟩
        have g2 := g1.asg (i := i) (v := v) (r := .sh d) rv c.1
        have c2 : noIo (e1.set i (.sh d))[j]? = true := noIo_set c.2 rfl
        have g3 := g2.asg (i := j) (v := w) (r := .sh e') rw' c2
        exact h _ H1 F1 g3 x1
      · exact h.elim
    · rename_i q
      cases q
    · exact h.elim
theorem n_join {apos pos : Pos} (hK : Z.G.K = X.K) (ha : PE X a (tE Z oa)) (hb : PE X b (tE Z ob)) (hs : starEach [b] X.env = [(false, eval b X.env)] := by rfl) (hbase : attributeBase a "join" X.env (eval a X.env) = eval a X.env := by rfl) (hline : (apos.endLine == pos.line) = true := by rfl) :
    PE X (.Call (.Attribute a "join" apos) [b] [] pos) (tE Z (oJoin oa ob)) := by
  refine PE.imp (pe_join ha hb hs hbase hline) fun σ H Q ⟨F, env, g, h⟩ => ?_
  refine seqE g h fun r1 env1 v1 H1 F1 g1 x1 rp1 h1 => ?_
  unfold joinG at h1
  generalize r1.fz = d at h1 rp1
  rw [← hK]
  cases d <;> try exact h1.elim
  rename_i z
  cases rp1
  refine ⟨⟨z, rfl⟩, ?_⟩
  refine seqE g1 h1 fun r2 env2 v2 H2 F2 g2 x2 rp2 h2 => ?_
  generalize r2.fz = d2 at h2 rp2
  unfold joinF at h2
  cases qi : itemsL d2 with
  | none => rw [qi] at h2; exact h2.elim
  | some ds =>
    rw [qi] at h2
    dsimp only at h2
    cases q : strsD ds with
    | none => rw [q] at h2; exact h2.elim
    | some ys =>
      rw [q] at h2
      dsimp only at h2
      split at h2
      case h_2 _ qq =>
        split at qq
        · cases qq
        · exact h2.elim
      rename_i z' qq
      split at qq
      case isFalse => cases qq
      rename_i c
      cases qq
      cases d2 <;> cases qi
      · cases rp2 with
        | tup k1 k2 =>
          have := k2.strs q
          subst this
          exact ⟨z, _, ys, rfl, rfl, .inr (g2.fh.t k1.t), c, h2 _ H2 F2 g2 (Ex.refl F2) (.str _)⟩
      · cases rp2 with
        | lst k1 k2 =>
          have := k2.strs q
          subst this
          exact ⟨z, _, ys, rfl, rfl, .inl (g2.fh.lr k1).sq, c, h2 _ H2 F2 g2 (Ex.refl F2) (.str _)⟩
theorem n_lenV (i : Nat) {x : PySem.Str} {px : Pos} (hm : X.mg "len" = none) (hK : Z.G.K = X.K) (hN : X.N[i]? = some x := by rfl) (hv : Vis X.env.scope x := by first | exact Or.inl rfl | exact Or.inr (Or.inl rfl) | exact Or.inr (Or.inr rfl)) (hd : (x == ("__debug__" : PySem.Str)) = false := by decide)
    (hcd : (x == ("__classdict__" : PySem.Str)) = false := by decide) (hg : Gl X "len" := by rfl) (he : starEach [.Name x px] X.env = (false, eval (.Name x px) X.env) :: starEach [] X.env := by rfl) : PE X (.Call (.Name "len" p) [.Name x px] [] pos) (tE Z (oLenV i)) := by
  refine PE.imp (pe_callB call_len hg hm PySem.boot_len (pa_cons (pe_var hN hv hd hcd) pa_nil he) (he := he)) fun σ H Q ⟨F, env, g, h⟩ => ?_
  unfold oLenV at h
  cases ho : ownAt env i with
  | some ds =>
    rw [ho] at h
    obtain ⟨a, vs, e1, e2, e3⟩ := own_at g ho
    refine ⟨_, e1, .ref a, vs.length, rfl, .inl ⟨vs, by rw [← hK]; exact e2.sq, rfl⟩, ?_⟩
    rw [e3.length]
    exact h _ H F g (Ex.refl F) (.int _)
  | none =>
    rw [ho] at h
    dsimp only at h
    cases e : env[i]? with
    | none => rw [e] at h; exact h.elim
    | some s =>
      rw [e] at h
      cases s with
      | sh d =>
        dsimp only at h
        cases hz : lenF [d] with
        | none => rw [hz] at h; exact h.elim
        | some z =>
          rw [hz] at h
          obtain ⟨v, h1, h2⟩ := g.sh i d e
          refine ⟨v, h1, ?_⟩
          have := s_len Z F σ H env [v] [d] z Q rfl g (.cons h2 .nil) hz h
          rw [hK] at this
          exact this
      | no => exact h.elim
      | ow ds => exact h.elim
      | io ds => exact h.elim
end
end FE

namespace FE
open PySem PySem.Spec PyProof.Rows L2

section
variable {X : Cx} {Z : Zd} {elt tg iter : Expr} {ifs : List Expr} {scope : Scope} {own : List (PySem.Str × Nat)} {pos spos py : Pos} {oi : Env → OI} {g : TG} {f : D → Env → Option Env} {ot : Env → OT} {oe : Env → OE} {i : Nat} {y : PySem.Str}
abbrev Zc (Z : Zd) (F0 H0 : Hp) (as : List Addr) : Zd := ⟨Z.G, F0, H0, as, fun _ _ _ _ => False, Z.C⟩
theorem n_comp (own : List (PySem.Str × Nat)) (hN : X.N.Nodup) (hi : PI X tg iter (tI Z oi)) (ht : TgOk Z.G (own.map (·.2)) g f)
    (hg : ∀ (s : Shared) (H : Hp) (C : Addr) (cl : List (PySem.Str × Addr)) (fp : List Addr), PG (X.blk s H scope (compEnvC scope cl C X.env) fp) tg g)
    (hT : ∀ (F0 H0 : Hp) (as : List Addr) (s : Shared) (H : Hp) (C : Addr) (cl : List (PySem.Str × Addr)) (fp : List Addr), PTs (X.blk s H scope (compEnvC scope cl C X.env) fp) ifs (tT (Zc Z F0 H0 as) ot))
    (he : ∀ (F0 H0 : Hp) (as : List Addr) (s : Shared) (H : Hp) (C : Addr) (cl : List (PySem.Str × Addr)) (fp : List Addr), PE (X.blk s H scope (compEnvC scope cl C X.env) fp) elt (tE (Zc Z F0 H0 as) oe)) (hc : X.calm = true := by rfl)
    (ok : BlkOk X.N X.env.scope scope own := by exact blkOk_by (by rfl)) (nd : (own.map (·.2)).Nodup := by decide) (hs : ∀ x, foldedSetIterable iter X.env x = pure x := by intro _; rfl) :
    PE X (.ListComp elt [⟨tg, iter, ifs, 0⟩] scope pos) (tE Z (oLc oi f ot oe (own.map (·.2)))) :=
  n_lc hc hN hi ok nd ht hg (fun Z' q s H C cl fp => by
    obtain ⟨G', F0, H0, as, W, C'⟩ := Z'
    obtain ⟨q1, q2, q3⟩ := q
    dsimp only at q1 q2 q3
    subst q1 q2 q3
    exact hT F0 H0 as s H C cl fp) (fun Z' q s H C cl fp => by
    obtain ⟨G', F0, H0, as, W, C'⟩ := Z'
    obtain ⟨q1, q2, q3⟩ := q
    dsimp only at q1 q2 q3
    subst q1 q2 q3
    exact he F0 H0 as s H C cl fp) hs
theorem n_asgComp (i : Nat) (own : List (PySem.Str × Nat)) (hN : X.N.Nodup) (hi : PI X tg iter (tI Z oi)) (ht : TgOk Z.G (own.map (·.2)) g f)
    (hg : ∀ (s : Shared) (H : Hp) (C : Addr) (cl : List (PySem.Str × Addr)) (fp : List Addr), PG (X.blk s H scope (compEnvC scope cl C X.env) fp) tg g)
    (hT : ∀ (F0 H0 : Hp) (as : List Addr) (s : Shared) (H : Hp) (C : Addr) (cl : List (PySem.Str × Addr)) (fp : List Addr), PTs (X.blk s H scope (compEnvC scope cl C X.env) fp) ifs (tT (Zc Z F0 H0 as) ot))
    (he : ∀ (F0 H0 : Hp) (as : List Addr) (s : Shared) (H : Hp) (C : Addr) (cl : List (PySem.Str × Addr)) (fp : List Addr), PE (X.blk s H scope (compEnvC scope cl C X.env) fp) elt (tE (Zc Z F0 H0 as) oe)) (hc : X.calm = true := by rfl)
    (ok : BlkOk X.N X.env.scope scope own := by exact blkOk_by (by rfl)) (nd : (own.map (·.2)).Nodup := by decide)
    (hsw : swapsWith (.ListComp elt [⟨tg, iter, ifs, 0⟩] scope pos) (some (.Name y py)) spos.line X.env = pure true := by rfl)
    (hy : X.N[i]? = some y := by rfl) (hyl : X.env.scope.names.lookup y = some .local := by rfl) (hs : ∀ x, foldedSetIterable iter X.env x = pure x := by intro _; rfl) :
    PS X (.Assign [.Name y py] (.ListComp elt [⟨tg, iter, ifs, 0⟩] scope pos) spos) (tS Z (sAsg i (oLc oi f ot oe (own.map (·.2))))) :=
  n_asgLc i hc hN hi ok nd ht hg (fun Z' q s H C cl fp => by
    obtain ⟨G', F0, H0, as, W, C'⟩ := Z'
    obtain ⟨q1, q2, q3⟩ := q
    dsimp only at q1 q2 q3
    subst q1 q2 q3
    exact hT F0 H0 as s H C cl fp) (fun Z' q s H C cl fp => by
    obtain ⟨G', F0, H0, as, W, C'⟩ := Z'
    obtain ⟨q1, q2, q3⟩ := q
    dsimp only at q1 q2 q3
    subst q1 q2 q3
    exact he F0 H0 as s H C cl fp) hsw hy hyl hs
end
theorem RoomX.blk {k : Nat} {X : Cx} {s : Shared} {H : Hp} {scope : Scope} {env : PySem.Env} {fp : List Addr} (h : RoomX k X) : RoomX k (X.blk s H scope env fp) := ⟨h.r, h.g⟩
theorem room_u {k : Nat} {X : Cx} (r : RoomX k X) : X.A.units + 150 < cLine := by
  have := r.r.un
  omega
theorem room_64 {k : Nat} {X : Cx} (r : RoomX k X) : X.A.units + 64 < cLine := by
  have := r.r.un
  omega
theorem room_65 {k : Nat} {X : Cx} (r : RoomX k X) : X.A.units + 65 < cLine := by
  have := r.r.un
  omega
/-- a law's end -/
theorem walk_ofG {l : PySem.W.OpenLaw} {n k : Nat} {q : Program} {loose : List PySem.Str} {XP : (PySem.Str → Option Value) → Heap → Prop} {YP : World → Heap → Prop} {d : DefRec} {x : PySem.Str}
    (hn : l.most = some n) (hn2 : n ≤ sizeLine) (hdf : d.params.defaults = []) (hr : Room k callerA)
    (F : ∀ (w : World) (mg : PySem.Str → Option Value) (fa : Addr) (h : Heap), YP w h → h.Ns mainGlobals mg → mg d.name = some (.ref fa) →
      ∃ (K : PySem.W.Frag) (fd : FuncData) (sp : Sp), K.In h ∧ (∀ (s : Shared) (u : Value), BindsTo s fd ⟨[u], []⟩ [(x, u)]) ∧
        (∀ (H : Hp) (a : Addr) (ns : List Int), ns.length ≤ n → (∀ k ∈ ns, Builtin.Int.intBits k ≤ 1048576) → (∀ b, H b = none ∨ b = a) → Lr K H a (ns.map V.int) → sp [.ref a] H (fun v _ => v = .bl true) fun _ _ _ => False) ∧
        ∀ base : Heap, K.In base → base.Ns mainGlobals mg → FnG l.prog w K mg base k fa fd [x] sp) :
    PySem.W.WalkO q loose XP YP l.row.toRowW d [] (fun f vs => PySem.call f vs) := by
  refine Att.attach_callB hn hdf fun w s₀ s₁ mg mb fa o pm cd doc a vs ns G Y ho hd hcd hmg hobj hints hlen hbits hg => ?_
  obtain ⟨K, fd, sp, KX, hb, hsp, hF⟩ := F w mg fa _ Y G.T.g hmg
  exact law_callG KX G.T.g G.T.b G.T.builtins G.T.nolimit hg hobj hints (Nat.le_trans hlen hn2) hr hF hb fun H hO hS => hsp H a ns hlen hbits hO hS
/-- a def of the top, called with all its values by place -/
theorem cal_of {P : Program} {w : World} {K : PySem.W.Frag} {mg : PySem.Str → Option Value} {base h : Heap} {k : Nat} {x : PySem.Str} {params : Arguments} {body : List Stmt} {scope : Scope} {fd : FuncData} {ps : List PySem.Str} {sp : Sp}
    (X : K.In h) (G : h.Ns mainGlobals mg) (g : (He.Fa.glo x).ok K = true) (F : FunD K x x params body scope [] [] (He.ga K x) fd) (fn : FnG P w K mg base k (He.ga K x) fd ps sp)
    (b : ∀ (kV doc pm : Value) (an : Option Addr) (cdv ct : Value) (us : List Value), us.length = ps.length → bindArgs (PySem.W.fnOf x x params body scope .none kV doc pm an cdv ct) ⟨us, []⟩ = pure (ps.zip us)) : Cal P w K mg base k x ps.length [] (fun vs _ => vs) sp := by
  refine ⟨_, fd, ps, fun us _ => us, He.glo_ok X G g, F.kp, fn, ?_⟩
  have bs := F.bindsN (ps := ps) b
  constructor
  · intro s us ws KX l1 l2
    have : ws = [] := List.length_eq_zero_iff.mp l2
    subst this
    have := bs s us KX (by rw [List.append_nil]; exact l1)
    rw [List.append_nil] at this
    exact this
  · exact fun r _ => r
/-- the law's start: its list, of ints -/
def intsL (ns : List Int) : List D := ns.map D.int
theorem repL_ints {G : Gd} {F : Hp} : ∀ ns : List Int, RepL G F (ns.map V.int) (intsL ns)
  | [] => .nil
  | n :: ns => .cons (.int n) (repL_ints ns)
theorem sp_law {G : Gd} {C : PySem.Str → Value → Prop} {f : List D → OC} {H : Hp} {a : Addr} {ns : List Int} (hl : Lr G.K H a (ns.map V.int)) (h : f [.lst (intsL ns)] = .ret (.sh (.bl true)) []) : spF G C 1 none f [.ref a] H (fun v _ => v = .bl true) fun _ _ _ => False := by
  refine ⟨H, [.lst (intsL ns)], [], rfl, argsOk_all (Ex.refl H) (.cons (.lst hl (repL_ints ns)) .nil), ?_⟩
  rw [h]
  intro v H' F' _ r
  exact bl_of r
end FE

namespace FE
open PySem PySem.Spec PyProof.Rows L2

section
variable {X : Cx} {Z : Zd} {a : Expr} {oa : Env → OE} {ok : Env → OA} {nm : Option PySem.Str} {kpos : Pos} {kws : List Keyword}
theorem call_maxU (hc : X.calm = true) : CallR X (.builtin "max") (rMax' X.K) := (call_max2 hc).or (cr_max hc)
theorem call_minU (hc : X.calm = true) : CallR X (.builtin "min") (rMin' X.K) := (call_min2 hc).or (cr_min hc)
theorem call_strU : CallR X (.type "str") rStrU := call_str_int.or SkE.call_str_str
theorem n_kcons (ha : PE X a (tE Z oa)) (hr : PK X kws (tA Z ok)) : PK X (⟨nm, a, kpos⟩ :: kws) (tA Z (oCons oa ok)) := by
  refine PK.imp (pk_cons ha hr) fun σ H Q ⟨F, env, g, h⟩ => ?_
  refine seqEA g h fun r1 env1 v1 H1 F1 g1 x1 rp1 h1 => ?_
  refine seqAA g1 h1 fun ds env2 vs H2 F2 g2 x2 rp2 h2 => ?_
  exact h2 (v1 :: vs) H2 F2 g2 (Ex.refl F2) (.cons (rp1.mono x2) rp2)
end
theorem grel_kw (n m : Nat) : GRel (n + m) n m (fun vs zs => vs ++ zs) (fun ds es => ds ++ es) := fun G F vs zs ds es h1 h2 r1 r2 => ⟨by rw [List.length_append, h1, h2], r1.append r2⟩
/-- .. by place and by name, all of it told -/
theorem cal_kw {P : Program} {w : World} {K : PySem.W.Frag} {mg : PySem.Str → Option Value} {base h : Heap} {k : Nat} {x : PySem.Str} {params : Arguments} {body : List Stmt} {scope : Scope} {fd : FuncData} {ps : List PySem.Str} {sp : Sp} (n : Nat) (ks : List PySem.Str)
    (X : K.In h) (G : h.Ns mainGlobals mg) (g : (He.Fa.glo x).ok K = true) (F : FunD K x x params body scope [] [] (He.ga K x) fd) (fn : FnG P w K mg base k (He.ga K x) fd ps sp)
    (b : ∀ (kV doc pm : Value) (an : Option Addr) (cdv ct : Value) (us ws : List Value), us.length = n → ws.length = ks.length → bindArgs (PySem.W.fnOf x x params body scope .none kV doc pm an cdv ct) ⟨us, ks.zip ws⟩ = pure (ps.zip (us ++ ws))) : Cal P w K mg base k x n ks (fun vs zs => vs ++ zs) sp := by
  refine ⟨_, fd, ps, fun us ws => us ++ ws, He.glo_ok X G g, F.kp, fn, ?_⟩
  obtain ⟨oc, od, dV, kV, doc, pm, an, cdv, ct, osl, rfl, lk, hcd, hD, hK⟩ := F.ex
  rcases hD with ⟨_, rfl⟩ | ⟨e, _⟩
  · constructor
    · exact fun s us ws KX l1 l2 => .of_eq (b kV doc pm an cdv ct us ws l1 l2)
    · exact fun r1 r2 => r1.append r2
  · exact absurd rfl e
/-! facts of the top -/
structure Tp (fa : List He.Fa) (fn : List He.DefD) (ex : PySem.W.Frag → Bool) (w : World) (K : PySem.W.Frag) (mg : PySem.Str → Option Value) (h : Heap) : Prop where
  kx : K.In h
  g : h.Ns mainGlobals mg
  c : He.SaysX fa fn [] [] ex w h K
section
variable {fa : List He.Fa} {fn : List He.DefD} {ex : PySem.W.Frag → Bool} {w : World} {K : PySem.W.Frag} {mg : PySem.Str → Option Value} {h : Heap}
theorem Tp.d (T : Tp fa fn ex w K mg h) : He.SaysD fa fn K := congrArg (fun z : He.AlT => z.1) T.c.t
theorem Tp.fact (T : Tp fa fn ex w K mg h) {f : He.Fa} (i : Nat) (e : fa[i]? = some f := by rfl) : f.ok K = true := T.d.fact i e
theorem Tp.free (T : Tp fa fn ex w K mg h) {x : PySem.Str} (i : Nat) (e : fa[i]? = some (.free x) := by rfl) : mg x = none := He.free_ok T.kx T.g (T.fact i e)
theorem Tp.int (T : Tp fa fn ex w K mg h) {x : PySem.Str} {n : Int} (i : Nat) (e : fa[i]? = some (.int x n) := by rfl) : ∃ u, mg x = some u ∧ RelV (.int n) u := by
  obtain ⟨t, q⟩ := He.int_ok T.kx T.g (T.fact i e)
  exact ⟨_, q, t, rfl⟩
theorem Tp.str (T : Tp fa fn ex w K mg h) {x z : PySem.Str} (i : Nat) (e : fa[i]? = some (.str x z) := by rfl) : ∃ u, mg x = some u ∧ RelV (.str z) u := by
  obtain ⟨t, q⟩ := He.str_ok T.kx T.g (T.fact i e)
  exact ⟨_, q, t, rfl⟩
end
end FE

namespace FE
open PySem PySem.Spec PyProof.Rows L2

/-! ### the machine's equations, for simp -/
theorem e_OE_bind_ok (r : R) (e : FE.Env) (f : R → FE.Env → OE) : (OE.ok r e).bind f = f r e := (rfl)
theorem e_OE_bind_exc (x : Xc) (e : FE.Env) (f : R → FE.Env → OE) : (OE.exc x e).bind f = .exc x e := (rfl)
theorem e_OE_bindT_ok (r : R) (e : FE.Env) (f : R → FE.Env → OT) : (OE.ok r e).bindT f = f r e := (rfl)
theorem e_OE_bindT_exc (x : Xc) (e : FE.Env) (f : R → FE.Env → OT) : (OE.exc x e).bindT f = .exc x e := (rfl)
theorem e_OE_bindA_ok (r : R) (e : FE.Env) (f : R → FE.Env → OA) : (OE.ok r e).bindA f = f r e := (rfl)
theorem e_OE_bindA_exc (x : Xc) (e : FE.Env) (f : R → FE.Env → OA) : (OE.exc x e).bindA f = .exc x e := (rfl)
theorem e_OE_bindS_ok (r : R) (e : FE.Env) (f : R → FE.Env → OS) : (OE.ok r e).bindS f = f r e := (rfl)
theorem e_OE_bindS_exc (x : Xc) (e : FE.Env) (f : R → FE.Env → OS) : (OE.exc x e).bindS f = .exc x e := (rfl)
theorem e_OE_bindI_ok (r : R) (e : FE.Env) (f : R → FE.Env → OI) : (OE.ok r e).bindI f = f r e := (rfl)
theorem e_OE_bindI_exc (x : Xc) (e : FE.Env) (f : R → FE.Env → OI) : (OE.exc x e).bindI f = .exc x e := (rfl)
theorem e_OE_bindG_ok (r : R) (e : FE.Env) (f : R → FE.Env → OG) : (OE.ok r e).bindG f = f r e := (rfl)
theorem e_OE_bindG_exc (x : Xc) (e : FE.Env) (f : R → FE.Env → OG) : (OE.exc x e).bindG f = .exc x e := (rfl)
theorem e_OT_bind_ok (b : Bool) (e : FE.Env) (f : Bool → FE.Env → OT) : (OT.ok b e).bind f = f b e := (rfl)
theorem e_OT_bind_exc (x : Xc) (e : FE.Env) (f : Bool → FE.Env → OT) : (OT.exc x e).bind f = .exc x e := (rfl)
theorem e_OT_bindE_ok (b : Bool) (e : FE.Env) (f : Bool → FE.Env → OE) : (OT.ok b e).bindE f = f b e := (rfl)
theorem e_OT_bindE_exc (x : Xc) (e : FE.Env) (f : Bool → FE.Env → OE) : (OT.exc x e).bindE f = .exc x e := (rfl)
theorem e_OT_bindS_ok (b : Bool) (e : FE.Env) (f : Bool → FE.Env → OS) : (OT.ok b e).bindS f = f b e := (rfl)
theorem e_OT_bindS_exc (x : Xc) (e : FE.Env) (f : Bool → FE.Env → OS) : (OT.exc x e).bindS f = .exc x e := (rfl)
theorem e_OA_bind_ok (ds : List D) (e : FE.Env) (f : List D → FE.Env → OA) : (OA.ok ds e).bind f = f ds e := (rfl)
theorem e_OA_bind_exc (x : Xc) (e : FE.Env) (f : List D → FE.Env → OA) : (OA.exc x e).bind f = .exc x e := (rfl)
theorem e_OA_bindE_ok (ds : List D) (e : FE.Env) (f : List D → FE.Env → OE) : (OA.ok ds e).bindE f = f ds e := (rfl)
theorem e_OA_bindE_exc (x : Xc) (e : FE.Env) (f : List D → FE.Env → OE) : (OA.exc x e).bindE f = .exc x e := (rfl)
theorem e_OA_bindI_ok (ds : List D) (e : FE.Env) (f : List D → FE.Env → OI) : (OA.ok ds e).bindI f = f ds e := (rfl)
theorem e_OA_bindI_exc (x : Xc) (e : FE.Env) (f : List D → FE.Env → OI) : (OA.exc x e).bindI f = .exc x e := (rfl)
theorem e_OI_bindE_ok (ds : List D) (e : FE.Env) (f : List D → FE.Env → OE) : (OI.ok ds e).bindE f = f ds e := (rfl)
theorem e_OI_bindE_exc (x : Xc) (e : FE.Env) (f : List D → FE.Env → OE) : (OI.exc x e).bindE f = .exc x e := (rfl)
theorem e_OI_bindS_ok (ds : List D) (e : FE.Env) (f : List D → FE.Env → OS) : (OI.ok ds e).bindS f = f ds e := (rfl)
theorem e_OI_bindS_exc (x : Xc) (e : FE.Env) (f : List D → FE.Env → OS) : (OI.exc x e).bindS f = .exc x e := (rfl)
theorem e_OG_bind_ok (as : List AD) (e : FE.Env) (f : List AD → FE.Env → OG) : (OG.ok as e).bind f = f as e := (rfl)
theorem e_OG_bind_exc (x : Xc) (e : FE.Env) (f : List AD → FE.Env → OG) : (OG.exc x e).bind f = .exc x e := (rfl)
theorem e_OG_bindE_ok (as : List AD) (e : FE.Env) (f : List AD → FE.Env → OE) : (OG.ok as e).bindE f = f as e := (rfl)
theorem e_OG_bindE_exc (x : Xc) (e : FE.Env) (f : List AD → FE.Env → OE) : (OG.exc x e).bindE f = .exc x e := (rfl)
theorem e_seq_nx (e : FE.Env) (f : FE.Env → OS) : (OS.nx e).seq f = f e := (rfl)
theorem e_seq_ret (r : R) (e : FE.Env) (f : FE.Env → OS) : (OS.ret r e).seq f = .ret r e := (rfl)
theorem e_seq_brk (e : FE.Env) (f : FE.Env → OS) : (OS.brk e).seq f = .brk e := (rfl)
theorem e_seq_cnt (e : FE.Env) (f : FE.Env → OS) : (OS.cnt e).seq f = .cnt e := (rfl)
theorem e_seq_exc (x : Xc) (e : FE.Env) (f : FE.Env → OS) : (OS.exc x e).seq f = .exc x e := (rfl)

def varK (env : FE.Env) (i : Nat) : Option SV → OE
  | some (.sh d) => .ok (.sh d) env
  | some (.ow ds) => .ok (.sh (.lst ds)) (env.set i (.sh (.lst ds)))
  | _ => .bad
theorem e_var (i : Nat) (env : FE.Env) : oVar i env = varK env i env[i]? := by
  unfold oVar varK
  cases env[i]? with
  | none => rfl
  | some s => cases s <;> rfl
theorem e_varK_sh (env : FE.Env) (i : Nat) (d : D) : varK env i (some (.sh d)) = .ok (.sh d) env := (rfl)
theorem e_varK_ow (env : FE.Env) (i : Nat) (ds : List D) : varK env i (some (.ow ds)) = .ok (.sh (.lst ds)) (env.set i (.sh (.lst ds))) := (rfl)

def mvK (env : FE.Env) (i : Nat) : Option SV → OE
  | some (.sh d) => .ok (.sh d) env
  | some (.ow ds) => .ok (.ow ds) (env.set i .no)
  | _ => .bad
theorem e_mv (i : Nat) (env : FE.Env) : oMv i env = mvK env i env[i]? := by
  unfold oMv mvK
  cases env[i]? with
  | none => rfl
  | some s => cases s <;> rfl
theorem e_mvK_sh (env : FE.Env) (i : Nat) (d : D) : mvK env i (some (.sh d)) = .ok (.sh d) env := (rfl)
theorem e_mvK_ow (env : FE.Env) (i : Nat) (ds : List D) : mvK env i (some (.ow ds)) = .ok (.ow ds) (env.set i .no) := (rfl)
theorem e_c (d : D) (env : FE.Env) : oC d env = .ok (.sh d) env := (rfl)

def okO (o : Option R) (e : FE.Env) : OE := match o with
  | some z => .ok z e
  | none => .bad
theorem e_okO (z : R) (e : FE.Env) : okO (some z) e = .ok z e := (rfl)

def opK2 (f : D → D → Option R) (r1 : R) (r2 : R) (e : FE.Env) : OE := okO (f r1.fz r2.fz) e
def opK1 (f : D → D → Option R) (ob : FE.Env → OE) (r1 : R) (e : FE.Env) : OE := (ob e).bind (opK2 f r1)
theorem e_op2 (f : D → D → Option R) (oa ob : FE.Env → OE) (env : FE.Env) : oOp2 f oa ob env = (oa env).bind (opK1 f ob) := by
  unfold oOp2 opK1 opK2 okO
  rfl
theorem e_opK1 (f : D → D → Option R) (ob : FE.Env → OE) (r1 : R) (e : FE.Env) : opK1 f ob r1 e = (ob e).bind (opK2 f r1) := (rfl)
theorem e_opK2 (f : D → D → Option R) (r1 r2 : R) (e : FE.Env) : opK2 f r1 r2 e = okO (f r1.fz r2.fz) e := (rfl)
def unK (f : D → Option R) (r1 : R) (e : FE.Env) : OE := okO (f r1.fz) e
theorem e_un (f : D → Option R) (oa : FE.Env → OE) (env : FE.Env) : oUn f oa env = (oa env).bind (unK f) := by
  unfold oUn unK okO
  rfl
theorem e_unK (f : D → Option R) (r1 : R) (e : FE.Env) : unK f r1 e = okO (f r1.fz) e := (rfl)

def andK (ob : FE.Env → OE) (r : R) (e : FE.Env) : OE := match r.fz with
  | .bl b => if b = true then ob e else .ok (.sh (.bl false)) e
  | _ => .bad
def orK (ob : FE.Env → OE) (r : R) (e : FE.Env) : OE := match r.fz with
  | .bl b => if b = true then .ok (.sh (.bl true)) e else ob e
  | _ => .bad
def notK (r : R) (e : FE.Env) : OE := match r.fz with
  | .bl b => .ok (.sh (.bl (!b))) e
  | _ => .bad
def truK (r : R) (e : FE.Env) : OT := match r.fz with
  | .bl b => .ok b e
  | _ => .bad
theorem e_and (oa ob : FE.Env → OE) (env : FE.Env) : oAnd oa ob env = (oa env).bind (andK ob) := by
  unfold oAnd
  congr 1
  funext r e
  unfold andK
  cases r.fz <;> first | rfl | (rename_i b; cases b <;> rfl)
theorem e_or (oa ob : FE.Env → OE) (env : FE.Env) : oOr oa ob env = (oa env).bind (orK ob) := by
  unfold oOr
  congr 1
  funext r e
  unfold orK
  cases r.fz <;> first | rfl | (rename_i b; cases b <;> rfl)
theorem e_not (oa : FE.Env → OE) (env : FE.Env) : oNot oa env = (oa env).bind notK := rfl
theorem e_tru (oa : FE.Env → OE) (env : FE.Env) : oTru oa env = (oa env).bindT truK := rfl
theorem e_andK_t (ob : FE.Env → OE) (e : FE.Env) : andK ob (.sh (.bl true)) e = ob e := (rfl)
theorem e_andK_f (ob : FE.Env → OE) (e : FE.Env) : andK ob (.sh (.bl false)) e = .ok (.sh (.bl false)) e := (rfl)
theorem e_orK_t (ob : FE.Env → OE) (e : FE.Env) : orK ob (.sh (.bl true)) e = .ok (.sh (.bl true)) e := (rfl)
theorem e_orK_f (ob : FE.Env → OE) (e : FE.Env) : orK ob (.sh (.bl false)) e = ob e := (rfl)
theorem e_notK (b : Bool) (e : FE.Env) : notK (.sh (.bl b)) e = .ok (.sh (.bl (!b))) e := (rfl)
theorem e_truK (b : Bool) (e : FE.Env) : truK (.sh (.bl b)) e = .ok b e := (rfl)

def ifK (oa ob : FE.Env → OE) (b : Bool) (e : FE.Env) : OE := if b = true then oa e else ob e
def tandK (ob : FE.Env → OT) (b : Bool) (e : FE.Env) : OT := if b = true then ob e else .ok false e
def torK (ob : FE.Env → OT) (b : Bool) (e : FE.Env) : OT := if b = true then .ok true e else ob e
def tnotK (b : Bool) (e : FE.Env) : OT := .ok (!b) e
def sifK (oa ob : FE.Env → OS) (b : Bool) (e : FE.Env) : OS := if b = true then oa e else ob e
theorem e_if (ot : FE.Env → OT) (oa ob : FE.Env → OE) (env : FE.Env) : oIf ot oa ob env = (ot env).bindE (ifK oa ob) := (rfl)
theorem e_tand (oa ob : FE.Env → OT) (env : FE.Env) : oTAnd oa ob env = (oa env).bind (tandK ob) := (rfl)
theorem e_tor (oa ob : FE.Env → OT) (env : FE.Env) : oTOr oa ob env = (oa env).bind (torK ob) := (rfl)
theorem e_tnot (oa : FE.Env → OT) (env : FE.Env) : oTNot oa env = (oa env).bind tnotK := (rfl)
theorem e_sif (ot : FE.Env → OT) (o1 o2 : FE.Env → OS) (env : FE.Env) : sIf ot o1 o2 env = (ot env).bindS (sifK o1 o2) := (rfl)
theorem e_ifK_t (oa ob : FE.Env → OE) (e : FE.Env) : ifK oa ob true e = oa e := (rfl)
theorem e_ifK_f (oa ob : FE.Env → OE) (e : FE.Env) : ifK oa ob false e = ob e := (rfl)
theorem e_sifK_t (oa ob : FE.Env → OS) (e : FE.Env) : sifK oa ob true e = oa e := (rfl)
theorem e_sifK_f (oa ob : FE.Env → OS) (e : FE.Env) : sifK oa ob false e = ob e := (rfl)
theorem e_tandK_t (ob : FE.Env → OT) (e : FE.Env) : tandK ob true e = ob e := (rfl)
theorem e_tandK_f (ob : FE.Env → OT) (e : FE.Env) : tandK ob false e = .ok false e := (rfl)
theorem e_torK_t (ob : FE.Env → OT) (e : FE.Env) : torK ob true e = .ok true e := (rfl)
theorem e_torK_f (ob : FE.Env → OT) (e : FE.Env) : torK ob false e = ob e := (rfl)
theorem e_tnotK (b : Bool) (e : FE.Env) : tnotK b e = .ok (!b) e := (rfl)
theorem e_nil (env : FE.Env) : oNil env = .ok [] env := (rfl)

def consK2 (r : R) (ds : List D) (e : FE.Env) : OA := .ok (r.fz :: ds) e
def consK1 (os : FE.Env → OA) (r : R) (e : FE.Env) : OA := (os e).bind (consK2 r)
def tupK (ds : List D) (e : FE.Env) : OE := if ds.length ≤ 1000000 then .ok (.sh (.tup ds)) e else .bad
def lstK (ds : List D) (e : FE.Env) : OE := if ds.length ≤ 1000000 then .ok (.ow ds) e else .bad
def cbK (f : List D → Option R) (ds : List D) (e : FE.Env) : OE := okO (f ds) e
theorem e_cons (oa : FE.Env → OE) (os : FE.Env → OA) (env : FE.Env) : oCons oa os env = (oa env).bindA (consK1 os) := (rfl)
theorem e_consK1 (os : FE.Env → OA) (r : R) (e : FE.Env) : consK1 os r e = (os e).bind (consK2 r) := (rfl)
theorem e_consK2 (r : R) (ds : List D) (e : FE.Env) : consK2 r ds e = .ok (r.fz :: ds) e := (rfl)
theorem e_tup (os : FE.Env → OA) (env : FE.Env) : oTup os env = (os env).bindE tupK := (rfl)
theorem e_lst (os : FE.Env → OA) (env : FE.Env) : oLst os env = (os env).bindE lstK := (rfl)
theorem e_cb (f : List D → Option R) (os : FE.Env → OA) (env : FE.Env) : oCallB f os env = (os env).bindE (cbK f) := by
  unfold oCallB cbK okO
  rfl
theorem e_tupK (ds : List D) (e : FE.Env) : tupK ds e = if ds.length ≤ 1000000 then .ok (.sh (.tup ds)) e else .bad := (rfl)
theorem e_lstK (ds : List D) (e : FE.Env) : lstK ds e = if ds.length ≤ 1000000 then .ok (.ow ds) e else .bad := (rfl)
theorem e_cbK (f : List D → Option R) (ds : List D) (e : FE.Env) : cbK f ds e = okO (f ds) e := (rfl)

def chK3 (f' : D → D → Option R) (r2 r3 : R) (e : FE.Env) : OE := okO (f' r2.fz r3.fz) e
def chB (f' : D → D → Option R) (oc : FE.Env → OE) (r2 : R) (e : FE.Env) : Option R → OE
  | some (.sh (.bl true)) => (oc e).bind (chK3 f' r2)
  | some (.sh (.bl false)) => .ok (.sh (.bl false)) e
  | _ => .bad
def chK2 (f f' : D → D → Option R) (oc : FE.Env → OE) (r1 r2 : R) (e : FE.Env) : OE := chB f' oc r2 e (f r1.fz r2.fz)
def chK1 (f f' : D → D → Option R) (ob oc : FE.Env → OE) (r1 : R) (e : FE.Env) : OE := (ob e).bind (chK2 f f' oc r1)
theorem e_chain (f f' : D → D → Option R) (oa ob oc : FE.Env → OE) (env : FE.Env) : oChain f f' oa ob oc env = (oa env).bind (chK1 f f' ob oc) := by
  unfold oChain
  all_goals congr 1
theorem e_chK1 (f f' : D → D → Option R) (ob oc : FE.Env → OE) (r1 : R) (e : FE.Env) : chK1 f f' ob oc r1 e = (ob e).bind (chK2 f f' oc r1) := (rfl)
theorem e_chK2 (f f' : D → D → Option R) (oc : FE.Env → OE) (r1 r2 : R) (e : FE.Env) : chK2 f f' oc r1 r2 e = chB f' oc r2 e (f r1.fz r2.fz) := (rfl)
theorem e_chK3 (f' : D → D → Option R) (r2 r3 : R) (e : FE.Env) : chK3 f' r2 r3 e = okO (f' r2.fz r3.fz) e := (rfl)
theorem e_chB_t (f' : D → D → Option R) (oc : FE.Env → OE) (r2 : R) (e : FE.Env) : chB f' oc r2 e (some (.sh (.bl true))) = (oc e).bind (chK3 f' r2) := (rfl)
theorem e_chB_f (f' : D → D → Option R) (oc : FE.Env → OE) (r2 : R) (e : FE.Env) : chB f' oc r2 e (some (.sh (.bl false))) = .ok (.sh (.bl false)) e := (rfl)

def ixE (e : FE.Env) (d : D) : Option SV → Option (List D) → OE
  | _, some ds => (match d with
    | .int k => (match L2.atI ds k with
      | some x => .ok (.sh x) e
      | none => .bad)
    | _ => .bad)
  | some (.sh x), none => okO (ixF x d) e
  | _, none => .bad
def ixVK (i : Nat) (r : R) (e : FE.Env) : OE := ixE e r.fz e[i]? (ownAt e i)
def ixH (i : Nat) (ob : FE.Env → OE) (env : FE.Env) : Bool → OE
  | true => (ob env).bind (ixVK i)
  | false => .bad
theorem e_ixV (i : Nat) (ob : FE.Env → OE) (env : FE.Env) : oIxV i ob env = ixH i ob env (here env[i]?) := by
  unfold oIxV ixH
  cases here env[i]? with
  | false => rfl
  | true =>
    rw [if_pos rfl]
    dsimp only
    congr 1
    funext r e
    unfold ixVK ixE okO
    cases ownAt e i with
    | some ds => rfl
    | none => cases e[i]? with
      | none => rfl
      | some s => cases s <;> rfl
theorem e_ixH (i : Nat) (ob : FE.Env → OE) (env : FE.Env) : ixH i ob env true = (ob env).bind (ixVK i) := (rfl)
theorem e_ixVK (i : Nat) (r : R) (e : FE.Env) : ixVK i r e = ixE e r.fz e[i]? (ownAt e i) := (rfl)

def atO (e : FE.Env) : Option D → OE
  | some x => .ok (.sh x) e
  | none => .bad
theorem e_ixE_own (e : FE.Env) (k : Int) (s : Option SV) (ds : List D) : ixE e (.int k) s (some ds) = atO e (L2.atI ds k) := by
  unfold ixE atO
  rfl
theorem e_ixE_sh (e : FE.Env) (d x : D) : ixE e d (some (.sh x)) none = okO (ixF x d) e := (rfl)
theorem e_atO (e : FE.Env) (x : D) : atO e (some x) = .ok (.sh x) e := (rfl)

def ownS : Option SV → Option (List D)
  | some (.ow ds) => some ds
  | some (.io ds) => some ds
  | some (.sh (.lst ds)) => some ds
  | _ => none
theorem e_ownAt (e : FE.Env) (i : Nat) : ownAt e i = ownS e[i]? := by
  unfold ownAt ownS
  rfl
theorem e_ownS_ow (ds : List D) : ownS (some (.ow ds)) = some ds := (rfl)
theorem e_ownS_io (ds : List D) : ownS (some (.io ds)) = some ds := (rfl)
theorem e_ownS_lst (ds : List D) : ownS (some (.sh (.lst ds))) = some ds := (rfl)
theorem e_ownS_tup (ds : List D) : ownS (some (.sh (.tup ds))) = none := (rfl)
theorem e_ownS_str (x : PySem.Str) : ownS (some (.sh (.str x))) = none := (rfl)
theorem e_ownS_int (x : Int) : ownS (some (.sh (.int x))) = none := (rfl)

def lenK (env : FE.Env) : Option SV → Option (List D) → OE
  | _, some ds => .ok (.sh (.int ds.length)) env
  | some (.sh d), none => okO (lenF [d]) env
  | _, none => .bad
theorem e_lenV (i : Nat) (env : FE.Env) : oLenV i env = lenK env env[i]? (ownAt env i) := by
  unfold oLenV lenK okO
  cases ownAt env i with
  | some ds => rfl
  | none => cases env[i]? with
    | none => rfl
    | some s => cases s <;> rfl
theorem e_lenK_own (env : FE.Env) (s : Option SV) (ds : List D) : lenK env s (some ds) = .ok (.sh (.int ds.length)) env := by
  unfold lenK
  rfl
theorem e_lenK_sh (env : FE.Env) (d : D) : lenK env (some (.sh d)) none = okO (lenF [d]) env := (rfl)
theorem e_here_no : here (some .no) = false := (rfl)
theorem e_noIo_no : noIo (some .no) = true := (rfl)
theorem e_Own_no : Own .no = none := (rfl)
theorem e_here_sh (d : D) : here (some (.sh d)) = true := (rfl)
theorem e_noIo_sh (d : D) : noIo (some (.sh d)) = true := (rfl)
theorem e_Own_sh (d : D) : Own (.sh d) = none := (rfl)
theorem e_here_ow (ds : List D) : here (some (.ow ds)) = true := (rfl)
theorem e_noIo_ow (ds : List D) : noIo (some (.ow ds)) = true := (rfl)
theorem e_Own_ow (ds : List D) : Own (.ow ds) = some ds := (rfl)
theorem e_here_io (ds : List D) : here (some (.io ds)) = true := (rfl)
theorem e_noIo_io (ds : List D) : noIo (some (.io ds)) = false := (rfl)
theorem e_Own_io (ds : List D) : Own (.io ds) = some ds := (rfl)
theorem e_fz_sh (d : D) : (R.sh d).fz = d := (rfl)
theorem e_fz_ow (ds : List D) : (R.ow ds).fz = .lst ds := (rfl)
theorem e_sv_sh (d : D) : (R.sh d).sv = .sh d := (rfl)
theorem e_sv_ow (ds : List D) : (R.ow ds).sv = .ow ds := (rfl)

def retK (r : R) (e : FE.Env) : OS := .ret r e
def exprK (_ : R) (e : FE.Env) : OS := .nx e
def asgB (i : Nat) (r : R) (e : FE.Env) : Bool → OS
  | true => .nx (e.set i r.sv)
  | false => .bad
def asgK (i : Nat) (r : R) (e : FE.Env) : OS := asgB i r e (noIo e[i]?)
theorem e_ret (oa : FE.Env → OE) (env : FE.Env) : sRet oa env = (oa env).bindS retK := (rfl)
theorem e_retK (r : R) (e : FE.Env) : retK r e = .ret r e := (rfl)
theorem e_retN (env : FE.Env) : sRetN env = .ret (.sh .non) env := (rfl)
theorem e_expr (oa : FE.Env → OE) (env : FE.Env) : sExpr oa env = (oa env).bindS exprK := (rfl)
theorem e_exprK (r : R) (e : FE.Env) : exprK r e = .nx e := (rfl)
theorem e_pass (env : FE.Env) : sPass env = .nx env := (rfl)
theorem e_break (env : FE.Env) : sBreak env = .brk env := (rfl)
theorem e_cont (env : FE.Env) : sCont env = .cnt env := (rfl)
theorem e_asg (i : Nat) (oa : FE.Env → OE) (env : FE.Env) : sAsg i oa env = (oa env).bindS (asgK i) := by
  unfold sAsg
  congr 1
  funext r e
  unfold asgK asgB
  cases noIo e[i]? <;> rfl
theorem e_asgK (i : Nat) (r : R) (e : FE.Env) : asgK i r e = asgB i r e (noIo e[i]?) := (rfl)
theorem e_asgB (i : Nat) (r : R) (e : FE.Env) : asgB i r e true = .nx (e.set i r.sv) := (rfl)
theorem e_sseq (o1 o2 : FE.Env → OS) (env : FE.Env) : sSeq o1 o2 env = (o1 env).seq o2 := (rfl)

def setO (rv : R) (i : Nat) (e : FE.Env) (ri : R) : Option (List D) → OS
  | some ds => (match ri.fz with
    | .int k => (match L2.ixN ds.length k with
      | some j => (match setOwn e i (ds.set j rv.fz) with
        | some e3 => .nx e3
        | none => .bad)
      | none => .bad)
    | _ => .bad)
  | none => .bad
def setK2 (rv : R) (i : Nat) (ri : R) (e : FE.Env) : OS := setO rv i e ri (e[i]?.bind Own)
def setB (i : Nat) (oi : FE.Env → OE) (rv : R) (e : FE.Env) : Bool → OS
  | true => (oi e).bindS (setK2 rv i)
  | false => .bad
def setK1 (i : Nat) (oi : FE.Env → OE) (rv : R) (e : FE.Env) : OS := setB i oi rv e (here e[i]?)
def nxO : Option FE.Env → OS
  | some e => .nx e
  | none => .bad
def setJ (rv : R) (i : Nat) (e : FE.Env) (ds : List D) : Option Nat → OS
  | some j => nxO (setOwn e i (ds.set j rv.fz))
  | none => .bad
theorem e_set (i : Nat) (oi ov : FE.Env → OE) (env : FE.Env) : sSetI i oi ov env = (ov env).bindS (setK1 i oi) := by
  unfold sSetI
  congr 1
  funext r e
  unfold setK1 setB
  cases here e[i]? with
  | false => rfl
  | true =>
    rw [if_pos rfl]
    dsimp only
    congr 1
theorem e_setK1 (i : Nat) (oi : FE.Env → OE) (rv : R) (e : FE.Env) : setK1 i oi rv e = setB i oi rv e (here e[i]?) := (rfl)
theorem e_setB (i : Nat) (oi : FE.Env → OE) (rv : R) (e : FE.Env) : setB i oi rv e true = (oi e).bindS (setK2 rv i) := (rfl)
theorem e_setK2 (rv : R) (i : Nat) (ri : R) (e : FE.Env) : setK2 rv i ri e = setO rv i e ri (e[i]?.bind Own) := (rfl)
theorem e_setO (rv : R) (i : Nat) (e : FE.Env) (k : Int) (ds : List D) : setO rv i e (.sh (.int k)) (some ds) = setJ rv i e ds (L2.ixN ds.length k) := by
  unfold setO setJ nxO
  rfl
theorem e_setJ (rv : R) (i : Nat) (e : FE.Env) (ds : List D) (j : Nat) : setJ rv i e ds (some j) = nxO (setOwn e i (ds.set j rv.fz)) := (rfl)
theorem e_nxO (e : FE.Env) : nxO (some e) = .nx e := (rfl)

def soK (env : FE.Env) (i : Nat) (ds : List D) : Option SV → Option FE.Env
  | some (.ow _) => some (env.set i (.ow ds))
  | some (.io _) => some (env.set i (.io ds))
  | _ => none
theorem e_setOwn (env : FE.Env) (i : Nat) (ds : List D) : setOwn env i ds = soK env i ds env[i]? := by
  unfold setOwn soK
  rfl
theorem e_soK_ow (env : FE.Env) (i : Nat) (ds es : List D) : soK env i ds (some (.ow es)) = some (env.set i (.ow ds)) := (rfl)
theorem e_soK_io (env : FE.Env) (i : Nat) (ds es : List D) : soK env i ds (some (.io es)) = some (env.set i (.io ds)) := (rfl)

def appO (i : Nat) (rv : R) (e : FE.Env) : Option (List D) → OS
  | some ds => if ds.length < 1000000 then nxO (setOwn e i (ds ++ [rv.fz])) else .bad
  | none => .bad
def appK (i : Nat) (rv : R) (e : FE.Env) : OS := appO i rv e (e[i]?.bind Own)
def appB (i : Nat) (ov : FE.Env → OE) (env : FE.Env) : Bool → OS
  | true => (ov env).bindS (appK i)
  | false => .bad
theorem e_app (i : Nat) (ov : FE.Env → OE) (env : FE.Env) : sApp i ov env = appB i ov env (env[i]?.bind Own).isSome := by
  unfold sApp appB
  cases (env[i]?.bind Own).isSome with
  | false => rfl
  | true =>
    rw [if_pos rfl]
    dsimp only
    congr 1
theorem e_appB (i : Nat) (ov : FE.Env → OE) (env : FE.Env) : appB i ov env true = (ov env).bindS (appK i) := (rfl)
theorem e_appK (i : Nat) (rv : R) (e : FE.Env) : appK i rv e = appO i rv e (e[i]?.bind Own) := (rfl)
theorem e_appO (i : Nat) (rv : R) (e : FE.Env) (ds : List D) : appO i rv e (some ds) = if ds.length < 1000000 then nxO (setOwn e i (ds ++ [rv.fz])) else .bad := (rfl)

def parK (i j : Nat) (d e : D) (e1 : FE.Env) : Bool → Bool → OS
  | true, true => .nx ((e1.set i (.sh d)).set j (.sh e))
  | _, _ => .bad
def parA (i j : Nat) : OA → OS
  | .ok [d, e] e1 => parK i j d e e1 (noIo e1[i]?) (noIo e1[j]?)
  | .exc x e1 => .exc x e1
  | _ => .bad
theorem e_par (i j : Nat) (os : FE.Env → OA) (env : FE.Env) : sPar i j os env = parA i j (os env) := by
  unfold sPar parA parK
  rcases os env with ⟨ds, e⟩ | ⟨x, e⟩ | _
  · rcases ds with _ | ⟨a, _ | ⟨b, _ | ⟨c, r⟩⟩⟩ <;> try rfl
    dsimp only
    cases noIo e[i]? <;> cases noIo e[j]? <;> rfl
  · rfl
  · rfl
theorem e_parA (i j : Nat) (d e : D) (e1 : FE.Env) : parA i j (.ok [d, e] e1) = parK i j d e e1 (noIo e1[i]?) (noIo e1[j]?) := (rfl)
theorem e_parK (i j : Nat) (d e : D) (e1 : FE.Env) : parK i j d e e1 true true = .nx ((e1.set i (.sh d)).set j (.sh e)) := (rfl)

def okI (o : Option (List D)) (e : FE.Env) : OI := match o with
  | some ds => .ok ds e
  | none => .bad
def iValK (r : R) (e : FE.Env) : OI := okI (itemsD r.fz) e
def zpD : List D → Option (List D)
  | [.lst ds, .lst es] => some (zipD ds es)
  | [.tup ds, .tup es] => some (zipD ds es)
  | _ => none
def iZpK (ds : List D) (e : FE.Env) : OI := okI (zpD ds) e
def rvD : D → Option (List D)
  | .lst ds => some ds.reverse
  | .tup ds => some ds.reverse
  | _ => none
def iRvK (r : R) (e : FE.Env) : OI := okI (rvD r.fz) e
def rg1D : List D → Option (List D)
  | [.int j] => if -(2 ^ 62) ≤ j ∧ j < 2 ^ 62 then some (rngD 0 j.toNat) else none
  | _ => none
def iRg1K (ds : List D) (e : FE.Env) : OI := okI (rg1D ds) e
def rg2D : List D → Option (List D)
  | [.int i, .int j] => if -(2 ^ 62) ≤ i ∧ i < 2 ^ 62 ∧ -(2 ^ 62) ≤ j ∧ j < 2 ^ 62 then some (rngD i (j - i).toNat) else none
  | _ => none
def iRg2K (ds : List D) (e : FE.Env) : OI := okI (rg2D ds) e
theorem e_okI (ds : List D) (e : FE.Env) : okI (some ds) e = .ok ds e := (rfl)
theorem e_iVal (oa : FE.Env → OE) (env : FE.Env) : iVal oa env = (oa env).bindI iValK := by
  unfold iVal
  all_goals congr 1
theorem e_iValK (r : R) (e : FE.Env) : iValK r e = okI (itemsD r.fz) e := (rfl)
theorem e_items_lst (ds : List D) : itemsD (.lst ds) = some ds := (rfl)
theorem e_items_tup (ds : List D) : itemsD (.tup ds) = some ds := (rfl)
theorem e_items_str (x : PySem.Str) : itemsD (.str x) = some (x.cps.toList.map fun c => .str ⟨#[c]⟩) := (rfl)
theorem e_iZp (os : FE.Env → OA) (env : FE.Env) : iZp os env = (os env).bindI iZpK := by
  unfold iZp
  congr 1
  funext ds e
  unfold iZpK zpD
  split
  · rfl
  · rfl
  · first
    | rfl
    | (rename_i h1 h2
       split
       · exact absurd rfl (h1 _ _)
       · exact absurd rfl (h2 _ _)
       · rfl)
theorem e_iZpK (ds : List D) (e : FE.Env) : iZpK ds e = okI (zpD ds) e := (rfl)
theorem e_zp_l (ds es : List D) : zpD [.lst ds, .lst es] = some (zipD ds es) := (rfl)
theorem e_zp_t (ds es : List D) : zpD [.tup ds, .tup es] = some (zipD ds es) := (rfl)
theorem e_iRv (oa : FE.Env → OE) (env : FE.Env) : iRv oa env = (oa env).bindI iRvK := by
  unfold iRv
  congr 1
  funext r e
  unfold iRvK rvD
  cases r.fz <;> rfl
theorem e_iRvK (r : R) (e : FE.Env) : iRvK r e = okI (rvD r.fz) e := (rfl)
theorem e_rv_l (ds : List D) : rvD (.lst ds) = some ds.reverse := (rfl)
theorem e_rv_t (ds : List D) : rvD (.tup ds) = some ds.reverse := (rfl)
theorem e_iRg1 (os : FE.Env → OA) (env : FE.Env) : iRg1 os env = (os env).bindI iRg1K := by
  unfold iRg1
  congr 1
  funext ds e
  unfold iRg1K rg1D
  split
  · split
    · first
      | rfl
      | (rename_i c
         show _ = okI (if _ then _ else _) e
         rw [if_pos c]
         rfl)
    · first
      | rfl
      | (rename_i c
         show _ = okI (if _ then _ else _) e
         rw [if_neg c]
         rfl)
  · first
    | rfl
    | (rename_i h1
       split
       · exact absurd rfl (h1 _)
       · rfl)
theorem e_iRg1K (ds : List D) (e : FE.Env) : iRg1K ds e = okI (rg1D ds) e := (rfl)
theorem e_rg1 (j : Int) : rg1D [.int j] = if -(2 ^ 62) ≤ j ∧ j < 2 ^ 62 then some (rngD 0 j.toNat) else none := (rfl)
theorem e_iRg2 (os : FE.Env → OA) (env : FE.Env) : iRg2 os env = (os env).bindI iRg2K := by
  unfold iRg2
  congr 1
  funext ds e
  unfold iRg2K rg2D
  split
  · split
    · first
      | rfl
      | (rename_i c
         show _ = okI (if _ then _ else _) e
         rw [if_pos c]
         rfl)
    · first
      | rfl
      | (rename_i c
         show _ = okI (if _ then _ else _) e
         rw [if_neg c]
         rfl)
  · first
    | rfl
    | (rename_i h1
       split
       · exact absurd rfl (h1 _ _)
       · rfl)
theorem e_iRg2K (ds : List D) (e : FE.Env) : iRg2K ds e = okI (rg2D ds) e := (rfl)
theorem e_rg2 (i j : Int) : rg2D [.int i, .int j] = if -(2 ^ 62) ≤ i ∧ i < 2 ^ 62 ∧ -(2 ^ 62) ≤ j ∧ j < 2 ^ 62 then some (rngD i (j - i).toNat) else none := (rfl)

def forK (g : D → FE.Env → Option FE.Env) (body : FE.Env → OS) (ds : List D) (e : FE.Env) : OS := forL g body ds e
theorem e_for (oi : FE.Env → OI) (g : D → FE.Env → Option FE.Env) (body : FE.Env → OS) (env : FE.Env) : sFor oi g body env = (oi env).bindS (forK g body) := (rfl)
theorem e_forK (g : D → FE.Env → Option FE.Env) (body : FE.Env → OS) (ds : List D) (e : FE.Env) : forK g body ds e = forL g body ds e := (rfl)
theorem e_for_nil (g : D → FE.Env → Option FE.Env) (body : FE.Env → OS) (e : FE.Env) : forL g body [] e = .nx e := (rfl)

def forS (g : D → FE.Env → Option FE.Env) (body : FE.Env → OS) (ds : List D) : OS → OS
  | .nx e => forL g body ds e
  | .cnt e => forL g body ds e
  | .brk e => .nx e
  | .ret r e => .ret r e
  | .exc x e => .exc x e
  | .bad => .bad
def forG (g : D → FE.Env → Option FE.Env) (body : FE.Env → OS) (ds : List D) : Option FE.Env → OS
  | some e => forS g body ds (body e)
  | none => .bad
theorem e_for_cons (g : D → FE.Env → Option FE.Env) (body : FE.Env → OS) (d : D) (ds : List D) (e : FE.Env) : forL g body (d :: ds) e = forG g body ds (g d e) := by
  rw [forL]
  unfold forG forS
  cases g d e <;> rfl
theorem e_forG (g : D → FE.Env → Option FE.Env) (body : FE.Env → OS) (ds : List D) (e : FE.Env) : forG g body ds (some e) = forS g body ds (body e) := (rfl)
theorem e_forS_nx (g : D → FE.Env → Option FE.Env) (body : FE.Env → OS) (ds : List D) (e : FE.Env) : forS g body ds (.nx e) = forL g body ds e := (rfl)
theorem e_forS_cnt (g : D → FE.Env → Option FE.Env) (body : FE.Env → OS) (ds : List D) (e : FE.Env) : forS g body ds (.cnt e) = forL g body ds e := (rfl)
theorem e_forS_brk (g : D → FE.Env → Option FE.Env) (body : FE.Env → OS) (ds : List D) (e : FE.Env) : forS g body ds (.brk e) = .nx e := (rfl)
theorem e_forS_ret (g : D → FE.Env → Option FE.Env) (body : FE.Env → OS) (ds : List D) (r : R) (e : FE.Env) : forS g body ds (.ret r e) = .ret r e := (rfl)
theorem e_forS_exc (g : D → FE.Env → Option FE.Env) (body : FE.Env → OS) (ds : List D) (x : Xc) (e : FE.Env) : forS g body ds (.exc x e) = .exc x e := (rfl)

def gvB (i : Nat) (d : D) (env : FE.Env) : Bool → Option FE.Env
  | true => some (env.set i (.sh d))
  | false => none
theorem e_gVar (i : Nat) (d : D) (env : FE.Env) : gVar i d env = gvB i d env (noIo env[i]?) := by
  unfold gVar gvB
  cases noIo env[i]? <;> rfl
theorem e_gvB (i : Nat) (d : D) (env : FE.Env) : gvB i d env true = some (env.set i (.sh d)) := (rfl)
theorem e_gTup (n : Nat) (f : List D → FE.Env → Option FE.Env) (ds : List D) (env : FE.Env) : gTupF n f (.tup ds) env = if ds.length = n then f ds env else none := (rfl)
theorem e_gTupW (n : Nat) (f : List D → FE.Env → Option FE.Env) (ds : List D) (env : FE.Env) : gTupF n f (.wtp ds) env = if ds.length = n then f ds env else none := (rfl)
theorem e_gCons (f : D → FE.Env → Option FE.Env) (fs : List D → FE.Env → Option FE.Env) (d : D) (ds : List D) (env : FE.Env) : gConsF f fs (d :: ds) env = (f d env).bind (fs ds) := (rfl)
theorem e_gNil (env : FE.Env) : gNilF [] env = some env := (rfl)

def lcR (ws : List Nat) (e1 : FE.Env) : Option (List D × FE.Env) → OE
  | some (acc, e2) => if (ws.all fun v => noIo e2[v]?) = true then .ok (.ow acc) (restE e1 e2 ws) else .bad
  | none => .bad
end FE

namespace FE
open PySem PySem.Spec PyProof.Rows L2

theorem d_add_i (i j : Int) : addF (.int i) (.int j) = some (.sh (.int (i + j))) := (rfl)
theorem d_add_s (x y : PySem.Str) : addF (.str x) (.str y) = if x.length + y.length ≤ 1000000 then some (.sh (.str (x ++ y))) else none := (rfl)
theorem d_add_l (xs ys : List D) : addF (.lst xs) (.lst ys) = if xs.length + ys.length ≤ 1000000 then some (.ow (xs ++ ys)) else none := (rfl)
theorem d_add_t (xs ys : List D) : addF (.tup xs) (.tup ys) = if xs.length + ys.length ≤ 1000000 then some (.sh (.tup (xs ++ ys))) else none := (rfl)
theorem d_mul_i (i j : Int) : mulF' (.int i) (.int j) = if i.natAbs.log2 + j.natAbs.log2 < 1000000 then some (.sh (.int (i * j))) else none := (rfl)
theorem d_mul_s (x : PySem.Str) (n : Int) : mulF' (.str x) (.int n) = if 0 ≤ n ∧ n ≤ 1000 ∧ x.length ≤ 1000 then some (.sh (.str (Txt.mul x n))) else none := (rfl)
theorem d_mul_l (ds : List D) (n : Int) : mulF' (.lst ds) (.int n) = if 0 ≤ n ∧ n ≤ 1000 ∧ ds.length ≤ 1000 then some (.ow (List.replicate n.toNat ds).flatten) else none := (rfl)
theorem d_fdiv (i j : Int) : fdivF (.int i) (.int j) = if 0 < j ∧ j.natAbs.log2 < 9000 then some (.sh (.int (i / j))) else none := (rfl)
theorem d_mod (i j : Int) : modF (.int i) (.int j) = if 0 < j then some (.sh (.int (i % j))) else none := (rfl)
theorem d_pow (i j : Int) : powF (.int i) (.int j) = if 0 ≤ j ∧ j ≤ 1000000 ∧ i.natAbs < 2 ^ 64 then some (.sh (.int (i ^ j.toNat))) else none := (rfl)
theorem d_neg (i : Int) : negF (.int i) = some (.sh (.int (-i))) := (rfl)
theorem d_iI (f : Int → Int → Int) (i j : Int) : iI f (.int i) (.int j) = some (.sh (.int (f i j))) := (rfl)
theorem d_ord_i (fi : Int → Int → Bool) (fs : PySem.Str → PySem.Str → Bool) (i j : Int) : ordF fi fs (.int i) (.int j) = some (.sh (.bl (fi i j))) := (rfl)
theorem d_ord_s (fi : Int → Int → Bool) (fs : PySem.Str → PySem.Str → Bool) (i j : PySem.Str) : ordF fi fs (.str i) (.str j) = some (.sh (.bl (fs i j))) := (rfl)
theorem d_eq_i (i j : Int) : eqF (.int i) (.int j) = some (.sh (.bl (decide (i = j)))) := (rfl)
theorem d_eq_s (i j : PySem.Str) : eqF (.str i) (.str j) = some (.sh (.bl (decide (i = j)))) := (rfl)
theorem d_ne_i (i j : Int) : neF (.int i) (.int j) = some (.sh (.bl (!decide (i = j)))) := (rfl)
theorem d_ne_s (i j : PySem.Str) : neF (.str i) (.str j) = some (.sh (.bl (!decide (i = j)))) := (rfl)
theorem d_len_l (ds : List D) : lenF [.lst ds] = some (.sh (.int ds.length)) := (rfl)
theorem d_len_t (ds : List D) : lenF [.tup ds] = some (.sh (.int ds.length)) := (rfl)
theorem d_abs (i : Int) : intF (fun i => if i < 0 then -i else i) [.int i] = some (.sh (.int (i.natAbs : Int))) := by
  show some (R.sh (D.int (if i < 0 then -i else i))) = _
  congr 3
  split <;> omega
theorem d_gcd (a b : Int) : gcdF [.int a, .int b] = some (.sh (.int ((Nat.gcd a.natAbs b.natAbs : Nat) : Int))) := (rfl)
theorem d_max2 (i j : Int) : maxF [.int i, .int j] = some (.sh (.int (mx i j))) := (rfl)
theorem d_min2 (i j : Int) : minF [.int i, .int j] = some (.sh (.int (mn i j))) := (rfl)
theorem d_tup_l (ds : List D) : tupF [.lst ds] = some (.sh (.tup ds)) := (rfl)
theorem d_tup_t (ds : List D) : tupF [.tup ds] = some (.sh (.tup ds)) := (rfl)

def atR : Option D → Option R
  | some x => some (.sh x)
  | none => none
theorem d_ix_l (ds : List D) (k : Int) : ixF (.lst ds) (.int k) = atR (L2.atI ds k) := by
  show (L2.atI ds k).map R.sh = _
  cases L2.atI ds k <;> rfl
theorem d_ix_t (ds : List D) (k : Int) : ixF (.tup ds) (.int k) = atR (L2.atI ds k) := by
  show (L2.atI ds k).map R.sh = _
  cases L2.atI ds k <;> rfl
theorem d_atR (x : D) : atR (some x) = some (.sh x) := (rfl)
theorem at_0 {α : Type} (x : α) (xs : List α) : L2.atI (x :: xs) 0 = some x := by
  unfold L2.atI L2.ixN
  rw [if_pos (by omega), if_pos (by rw [List.length_cons]; omega)]
  rfl
theorem at_1 {α : Type} (x y : α) (xs : List α) : L2.atI (x :: y :: xs) 1 = some y := by
  unfold L2.atI L2.ixN
  rw [if_pos (by omega), if_pos (by rw [List.length_cons, List.length_cons]; omega)]
  rfl
theorem at_2 {α : Type} (x y z : α) (xs : List α) : L2.atI (x :: y :: z :: xs) 2 = some z := by
  unfold L2.atI L2.ixN
  rw [if_pos (by omega), if_pos (by rw [List.length_cons, List.length_cons, List.length_cons]; omega)]
  rfl
theorem ixn_0 {n : Nat} : L2.ixN (n + 1) 0 = some 0 := by
  unfold L2.ixN
  rw [if_pos (by omega), if_pos (by omega)]
  rfl
theorem ixn_1 {n : Nat} : L2.ixN (n + 2) 1 = some 1 := by
  unfold L2.ixN
  rw [if_pos (by omega), if_pos (by omega)]
  rfl
theorem ixn_2 {n : Nat} : L2.ixN (n + 3) 2 = some 2 := by
  unfold L2.ixN
  rw [if_pos (by omega), if_pos (by omega)]
  rfl

def outR (r : R) : Option (List D) → OC
  | some es => .ret r es
  | none => .bad
def outX (x : Xc) : Option (List D) → OC
  | some es => .exc x es
  | none => .bad
def ioS : Option SV → Option (List D)
  | some (.io es) => some es
  | _ => none
theorem e_run (n : Nat) (io : Option Nat) (body : FE.Env → OS) (ds : List D) : runF n io body ds = finS io (body (argEnv io ds ++ List.replicate (n - ds.length) SV.no)) := (rfl)
theorem e_fin_ret (io : Option Nat) (r : R) (e : FE.Env) : finS io (.ret r e) = outR r (outOf io e) := by
  unfold finS outR
  rfl
theorem e_fin_nx (io : Option Nat) (e : FE.Env) : finS io (.nx e) = outR (.sh .non) (outOf io e) := by
  unfold finS outR
  rfl
theorem e_fin_exc (io : Option Nat) (x : Xc) (e : FE.Env) : finS io (.exc x e) = outX x (outOf io e) := by
  unfold finS outX
  rfl
theorem e_outR (r : R) (es : List D) : outR r (some es) = .ret r es := (rfl)
theorem e_outX (x : Xc) (es : List D) : outX x (some es) = .exc x es := (rfl)
theorem e_out_none (e : FE.Env) : outOf none e = some [] := (rfl)
theorem e_out_some (p : Nat) (e : FE.Env) : outOf (some p) e = ioS e[p]? := by
  unfold outOf ioS
  rfl
theorem e_ioS (es : List D) : ioS (some (.io es)) = some es := (rfl)
theorem e_arg_none (ds : List D) : argEnv none ds = ds.map SV.sh := by
  cases ds <;> rfl
theorem e_arg_nil (p : Nat) : argEnv (some p) [] = [] := (rfl)
theorem e_arg_0 (d : D) (ds : List D) : argEnv (some 0) (d :: ds) = ioD d :: ds.map SV.sh := (rfl)
theorem e_arg_s (p : Nat) (d : D) (ds : List D) : argEnv (some (p + 1)) (d :: ds) = .sh d :: argEnv (some p) ds := (rfl)
theorem e_ioD (es : List D) : ioD (.lst es) = .io es := (rfl)

def calO (e : FE.Env) : OC → OE
  | .ret r _ => .ok r e
  | .exc x _ => .exc x e
  | .bad => .bad
def calK2 (f : List D → OC) (n m : Nat) (gD : List D → List D → List D) (ds es : List D) (e : FE.Env) : OE := if ds.length = n ∧ es.length = m then calO e (f (gD ds es)) else .bad
def calK1 (f : List D → OC) (n m : Nat) (gD : List D → List D → List D) (ok : FE.Env → OA) (ds : List D) (e : FE.Env) : OE := (ok e).bindE (calK2 f n m gD ds)
theorem e_call (f : List D → OC) (n m : Nat) (gD : List D → List D → List D) (oa ok : FE.Env → OA) (env : FE.Env) : oCall f n m gD oa ok env = (oa env).bindE (calK1 f n m gD ok) := by
  unfold oCall
  all_goals congr 1
theorem e_calK1 (f : List D → OC) (n m : Nat) (gD : List D → List D → List D) (ok : FE.Env → OA) (ds : List D) (e : FE.Env) : calK1 f n m gD ok ds e = (ok e).bindE (calK2 f n m gD ds) := (rfl)
theorem e_calK2 (f : List D → OC) (n m : Nat) (gD : List D → List D → List D) (ds es : List D) (e : FE.Env) : calK2 f n m gD ds es e = if ds.length = n ∧ es.length = m then calO e (f (gD ds es)) else .bad := (rfl)
theorem e_calO_ret (e : FE.Env) (r : R) (out : List D) : calO e (.ret r out) = .ok r e := (rfl)
theorem e_calO_exc (e : FE.Env) (x : Xc) (out : List D) : calO e (.exc x out) = .exc x e := (rfl)

def cpS (r : R) : Option FE.Env → OE
  | some e => .ok r e
  | none => .bad
def cpX (x : Xc) : Option FE.Env → OE
  | some e => .exc x e
  | none => .bad
def cpC (e : FE.Env) : Option AD → OC → OE
  | some (.slot i), .ret r out => cpS r (setOwn e i out)
  | some (.slot i), .exc x out => cpX x (setOwn e i out)
  | _, .ret r _ => .ok r e
  | _, .exc x _ => .exc x e
  | _, .bad => .bad
def cpD (f : List D → OC) (p : Nat) (as : List AD) (e : FE.Env) : Option (List D) → OE
  | some ds => cpC e as[p]? (f ds)
  | none => .bad
def cpK (f : List D → OC) (n p : Nat) (as : List AD) (e : FE.Env) : OE := if as.length = n ∧ p < n ∧ adPl p as = true then cpD f p as e (adsD e as) else .bad
def gvK2 (r : R) (as : List AD) (e : FE.Env) : OG := .ok (.v r.fz :: as) e
def gvK1 (og : FE.Env → OG) (r : R) (e : FE.Env) : OG := (og e).bind (gvK2 r)
def gsK (i : Nat) (as : List AD) (e : FE.Env) : OG := .ok (.slot i :: as) e
def gsB (i : Nat) (og : FE.Env → OG) (env : FE.Env) : Bool → OG
  | true => (og env).bind (gsK i)
  | false => .bad
def goK (r : R) (e : FE.Env) : OG := match r with
  | .ow ds => .ok [.own ds] e
  | .sh _ => .bad
def adO : Option (List D) → Option D
  | some ds => some (.lst ds)
  | none => none
def adC (env : FE.Env) (as : List AD) : Option D → Option (List D)
  | some d => (match adsD env as with
    | some ds => some (d :: ds)
    | none => none)
  | none => none
def adC2 (d : D) : Option (List D) → Option (List D)
  | some ds => some (d :: ds)
  | none => none
theorem e_callP (f : List D → OC) (n p : Nat) (og : FE.Env → OG) (env : FE.Env) : oCallP f n p og env = (og env).bindE (cpK f n p) := by
  unfold oCallP
  congr 1
  funext as e
  unfold cpK
  split
  · cases adsD e as with
    | none => rfl
    | some ds =>
      unfold cpD cpC cpS cpX
      dsimp only
      cases f ds with
      | bad =>
        cases as[p]? with
        | none => rfl
        | some a => cases a <;> rfl
      | ret r out =>
        cases as[p]? with
        | none => rfl
        | some a => cases a <;> rfl
      | exc r out =>
        cases as[p]? with
        | none => rfl
        | some a => cases a <;> rfl
  · rfl
theorem e_cpK (f : List D → OC) (n p : Nat) (as : List AD) (e : FE.Env) : cpK f n p as e = if as.length = n ∧ p < n ∧ adPl p as = true then cpD f p as e (adsD e as) else .bad := (rfl)
theorem e_cpD (f : List D → OC) (p : Nat) (as : List AD) (e : FE.Env) (ds : List D) : cpD f p as e (some ds) = cpC e as[p]? (f ds) := (rfl)
theorem e_cpC_s (e : FE.Env) (i : Nat) (r : R) (out : List D) : cpC e (some (.slot i)) (.ret r out) = cpS r (setOwn e i out) := (rfl)
theorem e_cpC_x (e : FE.Env) (i : Nat) (x : Xc) (out : List D) : cpC e (some (.slot i)) (.exc x out) = cpX x (setOwn e i out) := (rfl)
theorem e_cpC_o (e : FE.Env) (es : List D) (r : R) (out : List D) : cpC e (some (.own es)) (.ret r out) = .ok r e := (rfl)
theorem e_cpS (r : R) (e : FE.Env) : cpS r (some e) = .ok r e := (rfl)
theorem e_cpX (x : Xc) (e : FE.Env) : cpX x (some e) = .exc x e := (rfl)
theorem e_gnil (env : FE.Env) : oGnil env = .ok [] env := (rfl)
theorem e_gv (oa : FE.Env → OE) (og : FE.Env → OG) (env : FE.Env) : oGv oa og env = (oa env).bindG (gvK1 og) := (rfl)
theorem e_gvK1 (og : FE.Env → OG) (r : R) (e : FE.Env) : gvK1 og r e = (og e).bind (gvK2 r) := (rfl)
theorem e_gvK2 (r : R) (as : List AD) (e : FE.Env) : gvK2 r as e = .ok (.v r.fz :: as) e := (rfl)
theorem e_gs (i : Nat) (og : FE.Env → OG) (env : FE.Env) : oGs i og env = gsB i og env (here env[i]?) := by
  unfold oGs gsB
  cases here env[i]? <;> rfl
theorem e_gsB (i : Nat) (og : FE.Env → OG) (env : FE.Env) : gsB i og env true = (og env).bind (gsK i) := (rfl)
theorem e_gsK (i : Nat) (as : List AD) (e : FE.Env) : gsK i as e = .ok (.slot i :: as) e := (rfl)
theorem e_go (oa : FE.Env → OE) (env : FE.Env) : oGo oa env = (oa env).bindG goK := by
  unfold oGo
  all_goals congr 1
theorem e_goK (ds : List D) (e : FE.Env) : goK (.ow ds) e = .ok [.own ds] e := (rfl)
theorem e_ads_nil (env : FE.Env) : adsD env [] = some [] := (rfl)
theorem e_ads_cons (env : FE.Env) (a : AD) (as : List AD) : adsD env (a :: as) = adC env as (adD env a) := by
  show adsD env (a :: as) = _
  unfold adC
  rw [adsD]
  all_goals (cases adD env a <;> rfl)
theorem e_adC (env : FE.Env) (as : List AD) (d : D) : adC env as (some d) = adC2 d (adsD env as) := by
  unfold adC adC2
  rfl
theorem e_adC2 (d : D) (ds : List D) : adC2 d (some ds) = some (d :: ds) := (rfl)
theorem e_adD_v (env : FE.Env) (d : D) : adD env (.v d) = some d := (rfl)
theorem e_adD_s (env : FE.Env) (i : Nat) : adD env (.slot i) = adO (env[i]?.bind Own) := by
  unfold adD adO
  rfl
theorem e_adD_o (env : FE.Env) (ds : List D) : adD env (.own ds) = some (.lst ds) := (rfl)
theorem e_adO (ds : List D) : adO (some ds) = some (.lst ds) := (rfl)

def piK (r : R) (e : FE.Env) : OE := match r.fz with
  | .int i => .ok (.sh (.int i)) e
  | _ => .bad
def slO (f : D → Option Int → Option Int → Option R) (d : D) (e : FE.Env) : Option (Option Int) → Option (Option Int) → OE
  | some l, some h => okO (f d l h) e
  | _, _ => .bad
def slK3 (f : D → Option Int → Option Int → Option R) (r1 r2 r3 : R) (e : FE.Env) : OE := slO f r1.fz e (partO r2.fz) (partO r3.fz)
def slK2 (f : D → Option Int → Option Int → Option R) (oh : FE.Env → OE) (r1 r2 : R) (e : FE.Env) : OE := (oh e).bind (slK3 f r1 r2)
def slK1 (f : D → Option Int → Option Int → Option R) (ol oh : FE.Env → OE) (r1 : R) (e : FE.Env) : OE := (ol e).bind (slK2 f oh r1)
def s3O (e : FE.Env) : D → Option (Option Int) → Option (Option Int) → Option (Option Int) → OE
  | .lst ds, some l, some h, some c => if c = some 0 then .bad else .ok (.ow (pickL ds l h c)) e
  | _, _, _, _ => .bad
def s3K4 (r1 r2 r3 r4 : R) (e : FE.Env) : OE := s3O e r1.fz (partO r2.fz) (partO r3.fz) (partO r4.fz)
def s3K3 (oc : FE.Env → OE) (r1 r2 r3 : R) (e : FE.Env) : OE := (oc e).bind (s3K4 r1 r2 r3)
def s3K2 (oh oc : FE.Env → OE) (r1 r2 : R) (e : FE.Env) : OE := (oh e).bind (s3K3 oc r1 r2)
def s3K1 (ol oh oc : FE.Env → OE) (r1 : R) (e : FE.Env) : OE := (ol e).bind (s3K2 oh oc r1)
theorem e_pi (oa : FE.Env → OE) (env : FE.Env) : oPI oa env = (oa env).bind piK := (rfl)
theorem e_piK (i : Int) (e : FE.Env) : piK (.sh (.int i)) e = .ok (.sh (.int i)) e := (rfl)
theorem e_sl (f : D → Option Int → Option Int → Option R) (oa ol oh : FE.Env → OE) (env : FE.Env) : oSl f oa ol oh env = (oa env).bind (slK1 f ol oh) := by
  unfold oSl
  all_goals congr 1
theorem e_slK1 (f : D → Option Int → Option Int → Option R) (ol oh : FE.Env → OE) (r1 : R) (e : FE.Env) : slK1 f ol oh r1 e = (ol e).bind (slK2 f oh r1) := (rfl)
theorem e_slK2 (f : D → Option Int → Option Int → Option R) (oh : FE.Env → OE) (r1 r2 : R) (e : FE.Env) : slK2 f oh r1 r2 e = (oh e).bind (slK3 f r1 r2) := (rfl)
theorem e_slK3 (f : D → Option Int → Option Int → Option R) (r1 r2 r3 : R) (e : FE.Env) : slK3 f r1 r2 r3 e = slO f r1.fz e (partO r2.fz) (partO r3.fz) := (rfl)
theorem e_slO (f : D → Option Int → Option Int → Option R) (d : D) (e : FE.Env) (l h : Option Int) : slO f d e (some l) (some h) = okO (f d l h) e := (rfl)
theorem e_part_n : partO .non = some none := (rfl)
theorem e_part_i (i : Int) : partO (.int i) = some (some i) := (rfl)
theorem d_slice_l (ds : List D) (lo hi : Option Int) : sliceF (.lst ds) lo hi = some (.ow (cutL ds lo hi)) := (rfl)
theorem d_slice_t (ds : List D) (lo hi : Option Int) : sliceF (.tup ds) lo hi = some (.sh (.tup (cutL ds lo hi))) := (rfl)
theorem e_sl3 (oa ol oh oc : FE.Env → OE) (env : FE.Env) : oSl3 oa ol oh oc env = (oa env).bind (s3K1 ol oh oc) := by
  unfold oSl3
  all_goals congr 1
theorem e_s3K1 (ol oh oc : FE.Env → OE) (r1 : R) (e : FE.Env) : s3K1 ol oh oc r1 e = (ol e).bind (s3K2 oh oc r1) := (rfl)
theorem e_s3K2 (oh oc : FE.Env → OE) (r1 r2 : R) (e : FE.Env) : s3K2 oh oc r1 r2 e = (oh e).bind (s3K3 oc r1 r2) := (rfl)
theorem e_s3K3 (oc : FE.Env → OE) (r1 r2 r3 : R) (e : FE.Env) : s3K3 oc r1 r2 r3 e = (oc e).bind (s3K4 r1 r2 r3) := (rfl)
theorem e_s3K4 (r1 r2 r3 r4 : R) (e : FE.Env) : s3K4 r1 r2 r3 r4 e = s3O e r1.fz (partO r2.fz) (partO r3.fz) (partO r4.fz) := (rfl)
theorem e_s3O (e : FE.Env) (ds : List D) (l h c : Option Int) : s3O e (.lst ds) (some l) (some h) (some c) = if c = some 0 then .bad else .ok (.ow (pickL ds l h c)) e := (rfl)

def lcB (f : D → FE.Env → Option FE.Env) (ot : FE.Env → OT) (oe : FE.Env → OE) (ws : List Nat) (ds : List D) (e1 : FE.Env) : Bool → OE
  | true => lcR ws e1 (lcL f ot oe ws ds (wipeE e1 ws) [])
  | false => .bad
def lcK (f : D → FE.Env → Option FE.Env) (ot : FE.Env → OT) (oe : FE.Env → OE) (ws : List Nat) (ds : List D) (e1 : FE.Env) : OE := lcB f ot oe ws ds e1 (ws.all (okW e1))
theorem e_lc (oi : FE.Env → OI) (f : D → FE.Env → Option FE.Env) (ot : FE.Env → OT) (oe : FE.Env → OE) (ws : List Nat) (env : FE.Env) : oLc oi f ot oe ws env = (oi env).bindE (lcK f ot oe ws) := by
  unfold oLc
  congr 1
  funext ds e
  unfold lcK lcB lcR
  cases ws.all (okW e) with
  | false => rfl
  | true =>
    rw [if_pos rfl]
    all_goals (try dsimp only)
    all_goals (cases lcL f ot oe ws ds (wipeE e ws) [] <;> rfl)
theorem e_lcK (f : D → FE.Env → Option FE.Env) (ot : FE.Env → OT) (oe : FE.Env → OE) (ws : List Nat) (ds : List D) (e1 : FE.Env) : lcK f ot oe ws ds e1 = lcB f ot oe ws ds e1 (ws.all (okW e1)) := (rfl)
theorem e_lcB (f : D → FE.Env → Option FE.Env) (ot : FE.Env → OT) (oe : FE.Env → OE) (ws : List Nat) (ds : List D) (e1 : FE.Env) : lcB f ot oe ws ds e1 true = lcR ws e1 (lcL f ot oe ws ds (wipeE e1 ws) []) := (rfl)
theorem e_lcR (ws : List Nat) (e1 e2 : FE.Env) (acc : List D) : lcR ws e1 (some (acc, e2)) = if (ws.all fun v => noIo e2[v]?) = true then .ok (.ow acc) (restE e1 e2 ws) else .bad := (rfl)
theorem e_yes (env : FE.Env) : oYes env = .ok true env := (rfl)

theorem e_okW (env : FE.Env) (v : Nat) : okW env v = (match env[v]? with
  | some .no => true
  | some (.sh _) => true
  | _ => false) := rfl
inductive A2 (P : D → D → Prop) : List D → List D → Prop
  | nil : A2 P [] []
  | cons {d e : D} {ds es : List D} : P d e → A2 P ds es → A2 P (d :: ds) (e :: es)
theorem A2.length {P : D → D → Prop} : ∀ {ds es : List D}, A2 P ds es → es.length = ds.length
  | _, _, .nil => rfl
  | _, _, .cons _ r => congrArg Nat.succ (A2.length r)
/-- a comprehension whose turns keep I and tell what P says -/
theorem lcL_inv {f : D → FE.Env → Option FE.Env} {ot : FE.Env → OT} {oe : FE.Env → OE} {ws : List Nat} (I : Nat → FE.Env → Prop) (P : D → D → Prop) : ∀ (ds : List D) (k : Nat) (env : FE.Env) (acc : List D), acc.length + ds.length ≤ 1000000 → I k env →
    (∀ k' d env, k ≤ k' → k' < k + ds.length → d ∈ ds → I k' env → ∃ e1 e2 e3 r, f d env = some e1 ∧ ot e1 = .ok true e2 ∧ oe e2 = .ok r e3 ∧ (ws.all fun v => noIo e3[v]?) = true ∧ I (k' + 1) (wipeE e3 ws) ∧ P d r.fz) →
    ∃ rs env', lcL f ot oe ws ds env acc = some (acc ++ rs, env') ∧ I (k + ds.length) env' ∧ A2 P ds rs
  | [], k, env, acc, _, hI, _ => ⟨[], env, by rw [lcL, List.append_nil], hI, .nil⟩
  | d :: ds, k, env, acc, hl, hI, h => by
    obtain ⟨e1, e2, e3, r, h1, h2, h3, h4, h5, h6⟩ := h k d env (Nat.le_refl k) (by rw [List.length_cons]; omega) List.mem_cons_self hI
    obtain ⟨rs, env', q1, q2, q3⟩ := lcL_inv I P ds (k + 1) (wipeE e3 ws) (acc ++ [r.fz]) (by rw [List.length_append, List.length_singleton]; rw [List.length_cons] at hl; omega) h5 (fun k' d env h1 h2 hd => h k' d env (by omega) (by rw [List.length_cons]; omega) (List.mem_cons_of_mem _ hd))
    refine ⟨r.fz :: rs, env', ?_, by rw [List.length_cons]; rw [show k + (ds.length + 1) = k + 1 + ds.length by omega]; exact q2, .cons h6 q3⟩
    rw [lcL, h1]
    dsimp only
    rw [h2]
    dsimp only
    rw [h3]
    dsimp only
    rw [if_pos ⟨h4, by rw [List.length_cons] at hl; omega⟩, q1, List.append_assoc]
    rfl
/-- a for whose turns keep I, or end -/
theorem forL_inv {g : D → FE.Env → Option FE.Env} {body : FE.Env → OS} (I : Nat → FE.Env → Prop) : ∀ (ds : List D) (k : Nat) (env : FE.Env), I k env →
    (∀ k' d env, k ≤ k' → k' < k + ds.length → d ∈ ds → I k' env → ∃ e1 e2, g d env = some e1 ∧ (body e1 = .nx e2 ∨ body e1 = .cnt e2) ∧ I (k' + 1) e2) →
    ∃ env', forL g body ds env = .nx env' ∧ I (k + ds.length) env'
  | [], k, env, hI, _ => ⟨env, rfl, hI⟩
  | d :: ds, k, env, hI, h => by
    obtain ⟨e1, e2, h1, h2, h3⟩ := h k d env (Nat.le_refl k) (by rw [List.length_cons]; omega) List.mem_cons_self hI
    obtain ⟨env', q1, q2⟩ := forL_inv I ds (k + 1) e2 h3 (fun k' d env h1 h2 hd => h k' d env (by omega) (by rw [List.length_cons]; omega) (List.mem_cons_of_mem _ hd))
    refine ⟨env', ?_, by rw [List.length_cons]; rw [show k + (ds.length + 1) = k + 1 + ds.length by omega]; exact q2⟩
    rw [forL, h1]
    dsimp only
    rcases h2 with h2 | h2 <;> rw [h2] <;> exact q1
/-- .. by the items gone over -/
theorem forL_ind {g : D → FE.Env → Option FE.Env} {body : FE.Env → OS} (I : List D → FE.Env → Prop) : ∀ (ds done : List D) (env : FE.Env), I done env →
    (∀ done d env, d ∈ ds → I done env → ∃ e1 e2, g d env = some e1 ∧ (body e1 = .nx e2 ∨ body e1 = .cnt e2) ∧ I (done ++ [d]) e2) →
    ∃ env', forL g body ds env = .nx env' ∧ I (done ++ ds) env'
  | [], done, env, hI, _ => ⟨env, rfl, by rw [List.append_nil]; exact hI⟩
  | d :: ds, done, env, hI, h => by
    obtain ⟨e1, e2, h1, h2, h3⟩ := h done d env List.mem_cons_self hI
    obtain ⟨env', q1, q2⟩ := forL_ind I ds (done ++ [d]) e2 h3 (fun done d env hd => h done d env (List.mem_cons_of_mem _ hd))
    refine ⟨env', ?_, by rw [show done ++ d :: ds = done ++ [d] ++ ds by simp]; exact q2⟩
    rw [forL, h1]
    dsimp only
    rcases h2 with h2 | h2 <;> rw [h2] <;> exact q1
end FE

namespace FE
open PySem PySem.Spec PyProof.Rows L2
theorem log_le {n k : Nat} (h : n < 2 ^ k) : n.log2 ≤ k := by
  by_cases z : n = 0
  · subst z
    rw [Nat.log2_zero]
    omega
  · exact Nat.le_of_lt ((Nat.log2_lt z).mpr h)
theorem big_log {i : Int} (h1 : -(10 ^ 300) ≤ i) (h2 : i ≤ 10 ^ 300) : i.natAbs.log2 ≤ 1000 := by
  have h : i.natAbs ≤ 10 ^ 300 := by omega
  exact log_le (Nat.lt_of_le_of_lt h (by decide +kernel))
theorem mul_ok {i j : Int} (h1 : -(10 ^ 300) ≤ i) (h2 : i ≤ 10 ^ 300) (h3 : -(10 ^ 300) ≤ j) (h4 : j ≤ 10 ^ 300) : i.natAbs.log2 + j.natAbs.log2 < 1000000 := by
  have a := big_log h1 h2
  have b := big_log h3 h4
  omega
theorem div_ok {j : Int} (h1 : 0 < j) (h2 : j ≤ 10 ^ 300) : 0 < j ∧ j.natAbs.log2 < 9000 := by
  have a := big_log (i := j) (by omega) h2
  exact ⟨h1, by omega⟩
theorem pow_ok {i j : Int} (h1 : 0 ≤ j) (h2 : j ≤ 1000000) (h3 : -(2 ^ 63) ≤ i) (h4 : i ≤ 2 ^ 63) : 0 ≤ j ∧ j ≤ 1000000 ∧ i.natAbs < 2 ^ 64 := ⟨h1, h2, by omega⟩
theorem pow_ok' {i : Int} (h3 : -(2 ^ 63) ≤ i) (h4 : i ≤ 2 ^ 63) : i.natAbs < 2 ^ 64 := by omega
theorem log_64 : (Int.natAbs 64).log2 < 9000 := by decide +kernel
theorem mul_le_big {i j a b : Int} (h1 : -a ≤ i) (h2 : i ≤ a) (h3 : -b ≤ j) (h4 : j ≤ b) : -(a * b) ≤ i * j ∧ i * j ≤ a * b := by
  have ha : 0 ≤ a := by omega
  have hb : 0 ≤ b := by omega
  have k : (i * j).natAbs ≤ (a * b).natAbs := by
    rw [Int.natAbs_mul, Int.natAbs_mul]
    exact Nat.mul_le_mul (by omega) (by omega)
  have c : 0 ≤ a * b := Int.mul_nonneg ha hb
  omega
theorem d_pow_6 : powF (.int 10) (.int 6) = some (.sh (.int 1000000)) := by
  unfold powF
  dsimp only
  rw [if_pos (by decide +kernel)]
  rfl
theorem d_pow_12 : powF (.int 10) (.int 12) = some (.sh (.int 1000000000000)) := by
  unfold powF
  dsimp only
  rw [if_pos (by decide +kernel)]
  rfl
theorem d_pow_18 : powF (.int 10) (.int 18) = some (.sh (.int 1000000000000000000)) := by
  unfold powF
  dsimp only
  rw [if_pos (by decide +kernel)]
  rfl
theorem d_pow_30 : powF (.int 10) (.int 30) = some (.sh (.int 1000000000000000000000000000000)) := by
  unfold powF
  dsimp only
  rw [if_pos (by decide +kernel)]
  rfl
theorem abs_10 : Int.natAbs 10 < 2 ^ 64 := by decide +kernel
theorem rng_5 : rngD 0 5 = [.int 0, .int 1, .int 2, .int 3, .int 4] := rfl
/-! ### what can be shown -/
structure ShowOk (d : D) (b n : Nat) : Prop where
  pl : d.plain = true
  sh : d.pyd.showable = true
  ls : d.pyd.leavesShort 1921 = true
  bk : d.pyd.bulk ≤ b
  dp : d.pyd.depth ≤ n
theorem showInt {i : Int} (h1 : -(10 ^ 300) ≤ i) (h2 : i ≤ 10 ^ 300) : ShowOk (.int i) 0 0 where
  pl := by simp only [D.plain]
  sh := by
    have := big_log h1 h2
    simp only [D.pyd, PyData.showable]
    exact decide_eq_true (by omega)
  ls := by
    have := big_log h1 h2
    have e := int_text_length_le (a := i) (k := 1920) (by decide) (by omega)
    simp only [D.pyd, PyData.leavesShort, PyData.shown]
    refine decide_eq_true ?_
    rw [PySem.ofString_length]
    exact e
  bk := by simp only [D.pyd, PyData.bulk]; exact Nat.le_refl _
  dp := by simp only [D.pyd, PyData.depth]; exact Nat.le_refl _
theorem showAll {b n : Nat} : ∀ {ds : List D}, (∀ d ∈ ds, ShowOk d b n) → plainL ds = true ∧ PyData.showableAll (pydL ds) = true ∧ PyData.leavesShortAll 1921 (pydL ds) = true ∧ PyData.bulkAll (pydL ds) ≤ ds.length * (b + 1) ∧ PyData.depthAll (pydL ds) ≤ n
  | [], _ => ⟨by simp only [plainL], by simp only [pydL, PyData.showableAll], by simp only [pydL, PyData.leavesShortAll], by simp only [pydL, PyData.bulkAll]; omega, by simp only [pydL, PyData.depthAll]; omega⟩
  | d :: ds, h => by
    have h1 := h d List.mem_cons_self
    obtain ⟨a1, a2, a3, a4, a5⟩ := showAll (ds := ds) fun e he => h e (List.mem_cons_of_mem _ he)
    refine ⟨by simp only [plainL, h1.pl, a1, Bool.and_self], by simp only [pydL, PyData.showableAll, h1.sh, a2, Bool.and_self], by simp only [pydL, PyData.leavesShortAll, h1.ls, a3, Bool.and_self], ?_, ?_⟩
    · simp only [pydL, PyData.bulkAll, List.length_cons]
      have := h1.bk
      rw [Nat.succ_mul]
      omega
    · simp only [pydL, PyData.depthAll]
      have := h1.dp
      omega
theorem showLst {b n L : Nat} {ds : List D} (h : ∀ d ∈ ds, ShowOk d b n) (hl : ds.length ≤ L) : ShowOk (.lst ds) (L * (b + 1)) (n + 1) := by
  obtain ⟨a1, a2, a3, a4, a5⟩ := showAll h
  refine ⟨by simp only [D.plain, a1], by simp only [D.pyd, PyData.showable, a2], by simp only [D.pyd, PyData.leavesShort, a3], ?_, ?_⟩
  · simp only [D.pyd, PyData.bulk]
    exact Nat.le_trans a4 (Nat.mul_le_mul_right _ hl)
  · simp only [D.pyd, PyData.depth]
    omega
theorem showTup {b n L : Nat} {ds : List D} (h : ∀ d ∈ ds, ShowOk d b n) (hl : ds.length ≤ L) : ShowOk (.tup ds) (L * (b + 1)) (n + 1) := by
  obtain ⟨a1, a2, a3, a4, a5⟩ := showAll h
  refine ⟨by simp only [D.plain, a1], by simp only [D.pyd, PyData.showable, a2], by simp only [D.pyd, PyData.leavesShort, a3], ?_, ?_⟩
  · simp only [D.pyd, PyData.bulk]
    exact Nat.le_trans a4 (Nat.mul_le_mul_right _ hl)
  · simp only [D.pyd, PyData.depth]
    omega
theorem ShowOk.mono {d : D} {b n b' n' : Nat} (h : ShowOk d b n) (hb : b ≤ b') (hn : n ≤ n') : ShowOk d b' n' := ⟨h.pl, h.sh, h.ls, Nat.le_trans h.bk hb, Nat.le_trans h.dp hn⟩
theorem repr_ok {d : D} {b n : Nat} (h : ShowOk d b n) (hb : b ≤ 8000) (hn : n ≤ 60) : reprF [d] = some (.sh (.str d.pyd.shown)) := by
  have e : pyS d = some d.pyd := by
    have p := h.pl
    cases d <;> first | rfl | exact if_pos p | (simp only [D.plain] at p; cases p)
  have o : okShow d.pyd = true := by
    unfold okShow
    rw [h.sh, h.ls, decide_eq_true (show d.pyd.bulk ≤ 8000 from Nat.le_trans h.bk hb), decide_eq_true (show d.pyd.depth ≤ 60 from Nat.le_trans h.dp hn)]
    rfl
  unfold reprF
  dsimp only
  rw [e]
  dsimp only
  rw [if_pos o]
/-! ### ints in lists -/
theorem intsD_ints : ∀ ns : List Int, intsD (intsL ns) = some ns
  | [] => rfl
  | n :: ns => by
    show intsD (.int n :: intsL ns) = _
    unfold intsD
    rw [intsD_ints ns]
    rfl
theorem sum_ints (ns : List Int) : sumF [.lst (intsL ns)] = some (.sh (.int ns.sum)) := by
  unfold sumF
  dsimp only
  rw [intsD_ints]
  rfl
theorem picks_map {α β : Type} (f : α → β) (xs : List α) : ∀ is : List Nat, is.filterMap ((xs.map f)[·]?) = (is.filterMap (xs[·]?)).map f
  | [] => rfl
  | i :: is => by
    rw [List.filterMap_cons, List.filterMap_cons, List.getElem?_map, picks_map f xs is]
    cases xs[i]? <;> rfl
theorem pick_ints (ns : List Int) (lo hi st : Option Int) : pickL (intsL ns) lo hi st = intsL (pickL ns lo hi st) := by
  unfold pickL intsL
  rw [List.length_map]
  exact picks_map D.int ns _
theorem cut_ints (ns : List Int) (lo hi : Option Int) : cutL (intsL ns) lo hi = intsL (cutL ns lo hi) := by
  unfold cutL intsL
  rw [List.length_map, List.map_take, List.map_drop]
theorem A2.ints {P : D → D → Prop} (h : ∀ d e, P d e → ∃ i : Int, e = .int i) : ∀ {ds es : List D}, A2 P ds es → ∃ ns : List Int, es = intsL ns
  | _, _, .nil => ⟨[], rfl⟩
  | _, _, .cons p r => by
    obtain ⟨i, rfl⟩ := h _ _ p
    obtain ⟨ns, rfl⟩ := A2.ints h r
    exact ⟨i :: ns, rfl⟩
/-! ### while -/
def whS (n : Nat) (ot : FE.Env → OT) (ob : FE.Env → OS) : OS → OS
  | .nx e => whL n ot ob e
  | .cnt e => whL n ot ob e
  | .brk e => .nx e
  | .ret r e => .ret r e
  | .exc x e => .exc x e
  | .bad => .bad
def whK (n : Nat) (ot : FE.Env → OT) (ob : FE.Env → OS) (b : Bool) (e : FE.Env) : OS := match b with
  | true => whS n ot ob (ob e)
  | false => .nx e
theorem e_wh (n : Nat) (ot : FE.Env → OT) (ob : FE.Env → OS) (env : FE.Env) : whL (n + 1) ot ob env = (ot env).bindS (whK n ot ob) := by
  rw [whL]
  congr 1
  funext b e
  unfold whK whS
  cases b <;> rfl
theorem e_whK_f (n : Nat) (ot : FE.Env → OT) (ob : FE.Env → OS) (e : FE.Env) : whK n ot ob false e = .nx e := (rfl)
theorem e_whK_t (n : Nat) (ot : FE.Env → OT) (ob : FE.Env → OS) (e : FE.Env) : whK n ot ob true e = whS n ot ob (ob e) := (rfl)
theorem e_whS (n : Nat) (ot : FE.Env → OT) (ob : FE.Env → OS) (e : FE.Env) : whS n ot ob (.nx e) = whL n ot ob e := (rfl)
/-! ### divisors -/
def gf (d : Nat) : List Int → Nat
  | [] => d
  | n :: ns => gf (Nat.gcd d n.natAbs) ns
theorem gf_app : ∀ (xs ys : List Int) (d : Nat), gf d (xs ++ ys) = gf (gf d xs) ys
  | [], _, _ => rfl
  | x :: xs, ys, d => gf_app xs ys (Nat.gcd d x.natAbs)
theorem gf_dvd (k : Nat) : ∀ (ns : List Int) (d : Nat), k ∣ gf d ns ↔ k ∣ d ∧ ∀ y ∈ ns, k ∣ y.natAbs
  | [], d => ⟨fun h => ⟨h, fun y hy => by cases hy⟩, fun h => h.1⟩
  | n :: ns, d => by
    show k ∣ gf (Nat.gcd d n.natAbs) ns ↔ _
    rw [gf_dvd k ns, Nat.dvd_gcd_iff]
    constructor
    · rintro ⟨⟨h1, h2⟩, h3⟩
      exact ⟨h1, fun y hy => by
        rcases List.mem_cons.mp hy with rfl | hy
        · exact h2
        · exact h3 y hy⟩
    · rintro ⟨h1, h2⟩
      exact ⟨⟨h1, h2 n List.mem_cons_self⟩, fun y hy => h2 y (List.mem_cons_of_mem _ hy)⟩
theorem gf_mem {d : Nat} {ns : List Int} {y : Int} (h : y ∈ ns) : gf d ns ∣ y.natAbs := ((gf_dvd (gf d ns) ns d).mp (Nat.dvd_refl _)).2 y h
theorem gf_ext {ns ms : List Int} (h : ∀ k : Nat, (∀ y ∈ ns, k ∣ y.natAbs) ↔ ∀ y ∈ ms, k ∣ y.natAbs) : gf 0 ns = gf 0 ms := by
  apply Nat.dvd_antisymm
  · exact (gf_dvd _ ms 0).mpr ⟨Nat.dvd_zero _, (h _).mp fun y hy => gf_mem hy⟩
  · exact (gf_dvd _ ns 0).mpr ⟨Nat.dvd_zero _, (h _).mpr fun y hy => gf_mem hy⟩
theorem gf_scale (t : Int) : ∀ (ns : List Int) (d : Nat), gf (t.natAbs * d) (ns.map fun c => t * c) = t.natAbs * gf d ns
  | [], _ => rfl
  | n :: ns, d => by
    show gf (Nat.gcd (t.natAbs * d) (t * n).natAbs) _ = t.natAbs * gf (Nat.gcd d n.natAbs) ns
    rw [Int.natAbs_mul, Nat.gcd_mul_left]
    exact gf_scale t ns _
theorem gf_div {ns : List Int} (h : 0 < gf 0 ns) : gf 0 (ns.map fun c => c / (gf 0 ns : Int)) = 1 := by
  apply Nat.dvd_antisymm
  · generalize hk : gf 0 (ns.map fun c => c / (gf 0 ns : Int)) = k
    have hk2 : ∀ c ∈ ns, k ∣ (c / (gf 0 ns : Int)).natAbs := fun c hc => by
      rw [← hk]
      exact gf_mem (List.mem_map.mpr ⟨c, hc, rfl⟩)
    have h2 : gf 0 ns * k ∣ gf 0 ns := (gf_dvd _ ns 0).mpr ⟨Nat.dvd_zero _, fun c hc => by
      obtain ⟨q, hq⟩ : (gf 0 ns : Int) ∣ c := Int.natAbs_dvd_natAbs.mp (by rw [Int.natAbs_natCast]; exact gf_mem hc)
      have hne : (gf 0 ns : Int) ≠ 0 := by omega
      have e : c / (gf 0 ns : Int) = q := by
        conv => lhs; rw [hq]
        exact Int.mul_ediv_cancel_left q hne
      have h3 := hk2 c hc
      rw [e] at h3
      rw [hq, Int.natAbs_mul, Int.natAbs_natCast]
      exact Nat.mul_dvd_mul_left _ h3⟩
    have h3 : gf 0 ns * k ∣ gf 0 ns * 1 := by rw [Nat.mul_one]; exact h2
    exact Nat.dvd_of_mul_dvd_mul_left h h3
  · exact Nat.one_dvd _
theorem gf_le {ns : List Int} {B : Nat} (h : ∀ y ∈ ns, y.natAbs ≤ B) : gf 0 ns ≤ B := by
  by_cases z : gf 0 ns = 0
  · omega
  · have ex : ∃ y ∈ ns, y.natAbs ≠ 0 := by
      apply Classical.byContradiction
      intro q
      have q2 : ∀ y ∈ ns, y.natAbs = 0 := fun y hy => Classical.byContradiction fun e => q ⟨y, hy, e⟩
      have : (0 : Nat) ∣ gf 0 ns := (gf_dvd 0 ns 0).mpr ⟨Nat.dvd_refl _, fun y hy => by rw [q2 y hy]; exact Nat.dvd_refl _⟩
      exact z (Nat.eq_zero_of_zero_dvd this)
    obtain ⟨y, hy, hn⟩ := ex
    exact Nat.le_trans (Nat.le_of_dvd (by omega) (gf_mem hy)) (h y hy)
def okWS : Option SV → Bool
  | some .no => true
  | some (.sh _) => true
  | _ => false
theorem e_okW2 (env : FE.Env) (v : Nat) : okW env v = okWS env[v]? := by
  unfold okW okWS
  rfl
theorem e_okWS_no : okWS (some .no) = true := (rfl)
theorem e_okWS_sh (d : D) : okWS (some (.sh d)) = true := (rfl)
theorem lcL_pure {f : D → FE.Env → Option FE.Env} {ot : FE.Env → OT} {oe : FE.Env → OE} {ws : List Nat} (env : FE.Env) (g : Int → Int) : ∀ (ns : List Int) (acc : List D), acc.length + ns.length ≤ 1000000 →
    (∀ i ∈ ns, ∃ e1 e2 e3, f (.int i) env = some e1 ∧ ot e1 = .ok true e2 ∧ oe e2 = .ok (.sh (.int (g i))) e3 ∧ (ws.all fun v => noIo e3[v]?) = true ∧ wipeE e3 ws = env) → lcL f ot oe ws (intsL ns) env acc = some (acc ++ intsL (ns.map g), env)
  | [], acc, _, _ => by
    show lcL f ot oe ws [] env acc = _
    rw [lcL]
    show _ = some (acc ++ [], env)
    rw [List.append_nil]
  | n :: ns, acc, hl, h => by
    obtain ⟨e1, e2, e3, h1, h2, h3, h4, h5⟩ := h n List.mem_cons_self
    rw [List.length_cons] at hl
    have ih := lcL_pure env g ns (acc ++ [.int (g n)]) (by rw [List.length_append, List.length_singleton]; omega) fun i hi => h i (List.mem_cons_of_mem _ hi)
    show lcL f ot oe ws (.int n :: intsL ns) env acc = _
    rw [lcL, h1]
    dsimp only
    rw [h2]
    dsimp only
    rw [h3]
    dsimp only
    rw [if_pos ⟨h4, by omega⟩, h5]
    show lcL f ot oe ws (intsL ns) env (acc ++ [.int (g n)]) = _
    rw [ih, List.append_assoc]
    rfl
theorem abs_nat (i : Int) : (if i < 0 then -i else i) = (i.natAbs : Int) := by
  split <;> omega
theorem log_7 : (Int.natAbs 7).log2 < 9000 := by decide +kernel
theorem rev_ints (ns : List Int) : (intsL ns).reverse = intsL ns.reverse := by
  unfold intsL
  rw [List.map_reverse]
theorem len_ints (ns : List Int) : (intsL ns).length = ns.length := by
  unfold intsL
  rw [List.length_map]
theorem app_ints (ns ms : List Int) : intsL ns ++ intsL ms = intsL (ns ++ ms) := by
  unfold intsL
  rw [List.map_append]
theorem showInts {ns : List Int} (h : ∀ y ∈ ns, -(10 ^ 300) ≤ y ∧ y ≤ 10 ^ 300) : ∀ d ∈ intsL ns, ShowOk d 0 0 := fun d hd => by
  obtain ⟨y, hy, rfl⟩ := List.mem_map.mp hd
  exact showInt (h y hy).1 (h y hy).2
theorem A2.intsP {P : Int → Prop} {Q : D → D → Prop} (h : ∀ d e, Q d e → ∃ i : Int, e = .int i ∧ P i) : ∀ {ds es : List D}, A2 Q ds es → ∃ ns : List Int, es = intsL ns ∧ ∀ y ∈ ns, P y
  | _, _, .nil => ⟨[], rfl, fun y hy => by cases hy⟩
  | _, _, .cons p r => by
    obtain ⟨i, rfl, hi⟩ := h _ _ p
    obtain ⟨ns, rfl, hn⟩ := A2.intsP h r
    exact ⟨i :: ns, rfl, fun y hy => by
      rcases List.mem_cons.mp hy with rfl | hy
      · exact hi
      · exact hn y hy⟩
end FE

namespace FE
open PySem PySem.Spec PyProof.Rows L2
/-! ### small dicts as they are written -/
section
variable {X : Cx} {Z : Zd} {pos : Pos}
theorem n_dict0 : PE X (.Dict [] [] pos) (tE Z (oC (.dic [] []))) := PE.imp pe_dnewK fun σ H Q ⟨F, env, g, h⟩ p hp =>
  h (.ref p) _ _ (g.layF hp) (Ex.new (g.fresh hp)) (.dic (ks := []) (vs := []) upd_same rfl .nil)
theorem n_dict1 {k v : Expr} {x : PySem.Str} {u : V} {d : D} (hk : PE X k (tC (.str x))) (hv : PE X v (tC u)) (r : ∀ F, Rep Z.G F u d) : PE X (.Dict [some k] [v] pos) (tE Z (oC (.dic [.inr x] [d]))) :=
  PE.imp (pe_disp (pps_cons hk hv pps_nil) rfl rfl (by simp) (by simp)) fun σ H Q ⟨F, env, g, h⟩ p hp => by
    refine ⟨upd_same, [(.inr x, u)], rfl, by simp, ?_⟩
    have e : upd (upd H p (.dK [])) p (.dK (mergeK [] [(.inr x, u)])) = upd H p (.dK [(.inr x, u)]) := by
      funext a
      by_cases q : a = p
      · subst q
        rw [upd_same, upd_same]
        rfl
      · rw [upd_ne q, upd_ne q, upd_ne q]
    rw [e]
    exact h (.ref p) _ _ (g.layF hp) (Ex.new (g.fresh hp)) (.dic (ks := [.inr x]) (vs := [u]) upd_same rfl (.cons (r _) .nil))
end
/-! ### keyword-only defaults -/
theorem cal_kd {P : Program} {w : World} {K : PySem.W.Frag} {mg : PySem.Str → Option Value} {base h : Heap} {k : Nat} {x : PySem.Str} {params : Arguments} {body : List Stmt} {scope : Scope} {kws : List (PySem.Str × V)} {fd : FuncData} {ps : List PySem.Str} {sp : Sp} (n : Nat) (ks : List PySem.Str) (ms : List (PySem.Str × V)) (g : {α : Type} → List α → List α → List α → List α)
    (X : K.In h) (G : h.Ns mainGlobals mg) (gl : (He.Fa.glo x).ok K = true) (F : FunD K x x params body scope [] kws (He.ga K x) fd) (fn : FnG P w K mg base k (He.ga K x) fd ps sp) (hk : kws ≠ []) (hms : ∀ q ∈ ms, q ∈ kws)
    (hrel : ∀ {vs mz zs : List V} {us mv ws : List Value}, Vals vs us → Vals mz mv → Vals zs ws → Vals (g vs mz zs) (g us mv ws))
    (b : ∀ (D : Addr) (doc pm : Value) (an : Option Addr) (cdv ct : Value) (us mv ws : List Value), us.length = n → mv.length = ms.length → ws.length = ks.length →
      KwChain D ((ms.map (·.1)).zip mv) (bindArgs (PySem.W.fnOf x x params body scope .none (.ref D) doc pm an cdv ct) ⟨us, ks.zip ws⟩) (ps.zip (g us mv ws))) : Cal P w K mg base k x n ks (fun vs zs => g vs (ms.map (·.2)) zs) sp := by
  obtain ⟨mv, hb⟩ := F.kbinds0 n ks ms g hk hms hrel b
  exact ⟨_, fd, ps, _, He.glo_ok X G gl, F.kp, fn, hb⟩
theorem grel_d (n : Nat) (mv : List V) (md : List D) (hm : ∀ G F, RepL G F mv md) : GRel (n + mv.length) n 0 (fun vs _ => vs ++ mv) (fun ds _ => ds ++ md) := fun G F vs zs ds es h1 h2 r1 r2 => ⟨by rw [List.length_append, h1], r1.append (hm G F)⟩
theorem grel_kd (n m : Nat) (mv : List V) (md : List D) (hm : ∀ G F, RepL G F mv md) : GRel (n + (m + mv.length)) n m (fun vs zs => vs ++ (zs ++ mv)) (fun ds es => ds ++ (es ++ md)) := fun G F vs zs ds es h1 h2 r1 r2 => ⟨by rw [List.length_append, List.length_append, h1, h2], r1.append (r2.append (hm G F))⟩
theorem grel_dk (n m : Nat) (mv : List V) (md : List D) (hm : ∀ G F, RepL G F mv md) : GRel (n + (mv.length + m)) n m (fun vs zs => vs ++ (mv ++ zs)) (fun ds es => ds ++ (md ++ es)) := fun G F vs zs ds es h1 h2 r1 r2 => ⟨by rw [List.length_append, List.length_append, h1, h2], r1.append ((hm G F).append r2)⟩
theorem grel_kr (n m : Nat) : GRel (n + m) n m (fun vs zs => vs ++ zs.reverse) (fun ds es => ds ++ es.reverse) := fun G F vs zs ds es h1 h2 r1 r2 => ⟨by rw [List.length_append, List.length_reverse, h1, h2], r1.append r2.reverse⟩
theorem vals_rev : ∀ {vs : List V} {us : List Value}, Vals vs us → Vals vs.reverse us.reverse
  | _, _, .nil => .nil
  | _, _, .cons h r => by
    rw [List.reverse_cons, List.reverse_cons]
    exact (vals_rev r).append (.cons h .nil)
end FE

namespace FE
open PySem PySem.Spec PyProof.Rows L2 TL
/-! ### texts of signs -/
def chS (c : Nat) : PySem.Str := ⟨#[c]⟩
def chL (cs : List Nat) : List D := cs.map fun c => .str ⟨#[c]⟩
theorem strsD_ch : ∀ cs : List Nat, strsD (chL cs) = some (cs.map chS)
  | [] => rfl
  | c :: cs => by
    show strsD (.str ⟨#[c]⟩ :: chL cs) = _
    unfold strsD
    rw [strsD_ch cs]
    rfl
theorem joinL_nil : ∀ ps : List (List Nat), joinL [] ps = ps.flatten
  | [] => rfl
  | [p] => by
    show p = p ++ []
    rw [List.append_nil]
  | p :: q :: r => by
    show p ++ ([] ++ joinL [] (q :: r)) = p ++ (q :: r).flatten
    rw [List.nil_append, joinL_nil (q :: r)]
theorem flat_one : ∀ cs : List Nat, (cs.map fun c => [c]).flatten = cs
  | [] => rfl
  | c :: cs => by
    show c :: (cs.map fun c => [c]).flatten = c :: cs
    rw [flat_one cs]
theorem join_ch (cs : List Nat) : (Txt.join (PySem.Str.ofString "") (cs.map chS)).cps.toList = cs := by
  rw [join_eq]
  have e := tl_join (PySem.Str.ofString "") (cs.map chS)
  have e2 : (cs.map chS).map tl = cs.map fun c => [c] := by
    rw [List.map_map]
    rfl
  rw [e2, show tl (PySem.Str.ofString "") = [] from rfl, joinL_nil, flat_one] at e
  exact e
theorem len_ch (x : PySem.Str) (cs : List Nat) (h : x.cps.toList = cs) : x.length = cs.length := by
  rw [← h]
  show x.cps.size = _
  simp
theorem joinF_ch (cs : List Nat) (h : cs.length ≤ 1000) : joinF (PySem.Str.ofString "") (.lst (chL cs)) = some (.sh (.str (Txt.join (PySem.Str.ofString "") (cs.map chS)))) := by
  unfold joinF
  show (match strsD (chL cs) with
    | some ys => _
    | none => _) = _
  rw [strsD_ch]
  dsimp only
  rw [if_pos]
  have e : ((cs.map chS).map fun x => x.length).sum = cs.length := by
    clear h
    induction cs with
    | nil => rfl
    | cons c cs ih =>
      rw [List.map_cons, List.map_cons, List.sum_cons, ih, List.length_cons]
      show 1 + cs.length = _
      omega
  rw [e, show (PySem.Str.ofString "").length = 0 from rfl]
  omega
/-- lists of texts that can be compared -/
theorem okD_ch {cs : List Nat} (h : ∀ c ∈ cs, c < 128) : okD (.lst (chL cs)) = true := by
  have all : plainL (chL cs) = true ∧ PyData.canLayAll0 (pydL (chL cs)) = true ∧ PyData.depthAll (pydL (chL cs)) = 0 := by
    induction cs with
    | nil => exact ⟨by simp only [chL, List.map_nil, plainL], by simp only [chL, List.map_nil, pydL, PyData.canLayAll0], by simp only [chL, List.map_nil, pydL, PyData.depthAll]⟩
    | cons c cs ih =>
      obtain ⟨h1, h2, h3⟩ := ih fun d hd => h d (List.mem_cons_of_mem _ hd)
      have hc := h c List.mem_cons_self
      have ho : PyData.strOk ⟨#[c]⟩ = true := by
        unfold PyData.strOk
        simp
        omega
      refine ⟨?_, ?_, ?_⟩
      · show plainL (.str ⟨#[c]⟩ :: chL cs) = true
        simp only [plainL, D.plain, h1, Bool.and_self]
      · show PyData.canLayAll0 (pydL (.str ⟨#[c]⟩ :: chL cs)) = true
        simp only [pydL, D.pyd, PyData.canLayAll0, PyData.canLay0, ho, h2, Bool.and_self]
      · show PyData.depthAll (pydL (.str ⟨#[c]⟩ :: chL cs)) = 0
        simp only [pydL, D.pyd, PyData.depthAll, PyData.depth, h3]
        rfl
  obtain ⟨h1, h2, h3⟩ := all
  unfold okD SeqAt.shaped
  simp only [D.plain, D.pyd, PyData.canLay0, PyData.depth, h1, h2, h3]
  decide
theorem eq_ch {cs : List Nat} (h : ∀ c ∈ cs, c < 128) : eqF (.lst (chL cs)) (.lst []) = some (.sh (.bl cs.isEmpty)) := by
  have o1 := okD_ch h
  have o2 : okD (.lst []) = true := okD_ch (cs := []) fun c hc => by cases hc
  unfold eqF bR
  have e : eqD (.lst (chL cs)) (.lst []) = some (PyData.eqv (D.lst (chL cs)).pyd (D.lst []).pyd) := by
    show (if okD (.lst (chL cs)) && okD (.lst []) then some (PyData.eqv (D.lst (chL cs)).pyd (D.lst []).pyd) else none) = _
    rw [o1, o2]
    rfl
  rw [e]
  cases cs with
  | nil =>
    simp only [chL, List.map_nil, D.pyd, pydL, PyData.eqv, PyData.eqvAll]
    rfl
  | cons c cs =>
    show some (R.sh (.bl (PyData.eqv (D.lst (.str ⟨#[c]⟩ :: chL cs)).pyd (D.lst []).pyd))) = _
    simp only [D.pyd, pydL, PyData.eqv, PyData.eqvAll]
    rfl
theorem ne_ch {cs : List Nat} (h : ∀ c ∈ cs, c < 128) : neF (.lst (chL cs)) (.lst []) = some (.sh (.bl (!cs.isEmpty))) := by
  have e := eq_ch h
  unfold eqF bR at e
  unfold neF bR
  cases q : eqD (.lst (chL cs)) (.lst []) with
  | none => rw [q] at e; cases e
  | some b =>
    rw [q] at e
    have : b = cs.isEmpty := by
      cases e
      rfl
    rw [this]
    rfl
theorem showStr {x : PySem.Str} (h : ∀ c ∈ x.cps.toList, c < 128) (hl : x.length ≤ 1000) : ShowOk (.str x) 1000 0 where
  pl := by simp only [D.plain]
  sh := by simp only [D.pyd, PyData.showable]
  ls := by
    simp only [D.pyd, PyData.leavesShort]
    refine List.all_eq_true.mpr fun c hc => decide_eq_true ?_
    have := h c hc
    omega
  bk := by simp only [D.pyd, PyData.bulk]; exact hl
  dp := by simp only [D.pyd, PyData.depth]; exact Nat.le_refl _
/-- an item of a list, a sign of a text -/
theorem at_mem {α : Type} {xs : List α} {v : Int} (h0 : 0 ≤ v) (h1 : v < xs.length) : ∃ x ∈ xs, L2.atI xs v = some x := by
  have hk : v.toNat < xs.length := by omega
  refine ⟨xs[v.toNat], List.getElem_mem _, ?_⟩
  unfold L2.atI L2.ixN
  rw [if_pos h0, if_pos (by omega)]
  exact List.getElem?_eq_getElem hk
theorem ix_s (x : PySem.Str) (v : Int) (c : Nat) (h : x.length ≤ 1000000) (e : L2.atI x.cps.toList v = some c) : ixF (.str x) (.int v) = some (.sh (.str ⟨#[c]⟩)) := by
  unfold ixF
  dsimp only
  rw [if_pos h, e]
  rfl
theorem e_len_s (x : PySem.Str) : lenF [.str x] = if x.length ≤ 1000000 then some (.sh (.int x.length)) else none := by
  unfold lenF
  rfl
def jK2 (a : PySem.Str) (r2 : R) (e : FE.Env) : OE := okO (joinF a r2.fz) e
def jK1 (ob : FE.Env → OE) (r : R) (e : FE.Env) : OE := match r.fz with
  | .str a => (ob e).bind (jK2 a)
  | _ => .bad
theorem e_join (oa ob : FE.Env → OE) (env : FE.Env) : oJoin oa ob env = (oa env).bind (jK1 ob) := by
  unfold oJoin
  all_goals congr 1
theorem e_jK1 (ob : FE.Env → OE) (a : PySem.Str) (e : FE.Env) : jK1 ob (.sh (.str a)) e = (ob e).bind (jK2 a) := (rfl)
theorem e_jK2 (a : PySem.Str) (r2 : R) (e : FE.Env) : jK2 a r2 e = okO (joinF a r2.fz) e := (rfl)
theorem set_ch (cs : List Nat) (j c : Nat) : (chL cs).set j (.str ⟨#[c]⟩) = chL (cs.set j c) := by
  unfold chL
  rw [List.map_set]
theorem len_chL (cs : List Nat) : (chL cs).length = cs.length := by
  unfold chL
  rw [List.length_map]
theorem ixn_of {n : Nat} {v : Int} (h0 : 0 ≤ v) (h1 : v < n) : L2.ixN n v = some v.toNat := by
  unfold L2.ixN
  rw [if_pos h0, if_pos h1]
theorem app_cps (x y : PySem.Str) : (x ++ y).cps.toList = x.cps.toList ++ y.cps.toList := by
  show (x.cps ++ y.cps).toList = _
  simp
theorem bolsD_map {α : Type} (f : α → Bool) : ∀ cs : List α, bolsD (cs.map fun c => D.bl (f c)) = some (cs.map f)
  | [] => rfl
  | c :: cs => by
    show bolsD (.bl (f c) :: cs.map fun c => D.bl (f c)) = _
    unfold bolsD
    rw [bolsD_map f cs]
    rfl
/-! ### a list of one's own, compared -/
def SDp (K : PySem.W.Frag) (r : R2) (f : D → D → Option R) : Prop := ∀ (G : Gd) (H : Hp) (x y : V) (ds : List D) (e : D) (z : R) (Q : VK), G.K = K → Rep G H x (.lst ds) → Rep G H y e → f (.lst ds) e = some z → (∀ b, z = .sh (.bl b) → Q (.bl b) H) → r x y H Q
theorem eqD_l {ds : List D} {e : D} {b : Bool} (h : eqD (.lst ds) e = some b) : okD (.lst ds) = true ∧ okD e = true ∧ b = PyData.eqv (D.lst ds).pyd e.pyd := by
  have h : (if okD (.lst ds) && okD e then some (PyData.eqv (D.lst ds).pyd e.pyd) else none) = some b := h
  split at h
  · rename_i c
    cases h
    rw [Bool.and_eq_true] at c
    exact ⟨c.1, c.2, rfl⟩
  · cases h
theorem sd_eq {K : PySem.W.Frag} : SDp K (rEqU K) eqF := by
  intro G H x y ds e z Q hK rx ry h q
  subst hK
  unfold eqF bR at h
  cases qe : eqD (.lst ds) e with
  | none => rw [qe] at h; cases h
  | some b =>
    rw [qe] at h
    cases h
    obtain ⟨o1, o2, rfl⟩ := eqD_l qe
    obtain ⟨p1, s1⟩ := okD_dp rx o1
    obtain ⟨p2, s2⟩ := okD_dp ry o2
    exact .inr ⟨_, _, p1, p2, s1, s2, q _ rfl⟩
theorem sd_ne {K : PySem.W.Frag} : SDp K (rNeU K) neF := by
  intro G H x y ds e z Q hK rx ry h q
  subst hK
  unfold neF bR at h
  cases qe : eqD (.lst ds) e with
  | none => rw [qe] at h; cases h
  | some b =>
    rw [qe] at h
    cases h
    obtain ⟨o1, o2, rfl⟩ := eqD_l qe
    obtain ⟨p1, s1⟩ := okD_dp rx o1
    obtain ⟨p2, s2⟩ := okD_dp ry o2
    exact .inr ⟨_, _, p1, p2, s1, s2, q _ rfl⟩
def cvB (f : D → D → Option R) (i : Nat) (r : R) (e : FE.Env) : OE := match ownAt e i with
  | some ds => (match f (.lst ds) r.fz with
    | some (.sh (.bl b)) => .ok (.sh (.bl b)) e
    | _ => .bad)
  | none => .bad
def oCmpV (f : D → D → Option R) (i : Nat) (ob : FE.Env → OE) : FE.Env → OE := fun env => if here env[i]? = true then (ob env).bind (cvB f i) else .bad
theorem cmpV_to {X : Cx} {Z : Zd} {r : R2} {f : D → D → Option R} {i : Nat} {ob : FE.Env → OE} {σ : L2.St} {H : Hp} {Q : VK} (hs : SDp X.K r f) (hK : Z.G.K = X.K) (h : tE Z (oCmpV f i ob) σ H Q) : ∃ v, σ[i]? = some (some v) ∧ tE Z ob σ H fun y H2 => r v y H2 Q := by
  obtain ⟨F, env, g, h⟩ := h
  unfold oCmpV at h
  split at h
  case isFalse => exact h.elim
  rename_i hh
  obtain ⟨v, hv⟩ := g.here hh
  refine ⟨v, hv, ?_⟩
  refine seqE g h fun r1 env1 w H1 F1 g1 x1 rw1 h1 => ?_
  unfold cvB at h1
  cases ho : ownAt env1 i with
  | none => rw [ho] at h1; exact h1.elim
  | some ds =>
    rw [ho] at h1
    obtain ⟨a, vs, e1, e2, e3⟩ := own_at g1 ho
    rw [hv] at e1
    cases e1
    dsimp only at h1
    cases hz : f (.lst ds) r1.fz with
    | none => rw [hz] at h1; exact h1.elim
    | some z =>
      rw [hz] at h1
      refine hs Z.G H1 (.ref a) w ds r1.fz z Q hK (.lst e2 (e3.mono g1.fh)) (rw1.mono g1.fh) hz fun b hb => ?_
      subst hb
      exact h1 (.bl b) H1 F1 g1 (Ex.refl F1) (.bl b)
section
variable {X : Cx} {Z : Zd} {b : Expr} {ob : FE.Env → OE} {pos p : Pos} {x : PySem.Str}
theorem n_cmpV (i : Nat) {op : CmpOp} {r : R2} {f : D → D → Option R} (ho : OpR X (compareOp op) r) (hs : SDp X.K r f) (hb : PE X b (tE Z ob)) (hK : Z.G.K = X.K) (hN : X.N[i]? = some x := by rfl) (hv : Vis X.env.scope x := by first | exact Or.inl rfl | exact Or.inr (Or.inl rfl) | exact Or.inr (Or.inr rfl)) (hd : (x == ("__debug__" : PySem.Str)) = false := by decide)
    (hcd : (x == ("__classdict__" : PySem.Str)) = false := by decide) (hm : behindInMarks op b = false := by rfl) : PE X (.Compare (.Name x p) [op] [b] pos) (tE Z (oCmpV f i ob)) :=
  PE.imp (pe_cmpR ho (pe_var hN hv hd hcd) hb hm) fun σ H Q h => cmpV_to hs hK h
theorem n_tcmpV (i : Nat) {op : CmpOp} {r : R2} {f : D → D → Option R} (ho : OpR X (compareOp op) r) (hs : SDp X.K r f) (hb : PE X b (tE Z ob)) (hK : Z.G.K = X.K) (hN : X.N[i]? = some x := by rfl) (hv : Vis X.env.scope x := by first | exact Or.inl rfl | exact Or.inr (Or.inl rfl) | exact Or.inr (Or.inr rfl)) (hd : (x == ("__debug__" : PySem.Str)) = false := by decide)
    (hcd : (x == ("__classdict__" : PySem.Str)) = false := by decide) (hm : behindInMarks op b = false := by rfl) : PT X (.Compare (.Name x p) [op] [b] pos) (tT Z (oTru (oCmpV f i ob))) := by
  refine PT.imp (pt_cmpR ho (pe_var hN hv hd hcd) hb hm) fun σ H Q h => ?_
  obtain ⟨F, env, g, h⟩ := test_to h
  exact cmpV_to hs hK ⟨F, env, g, h⟩
end
def cvZ (e : FE.Env) : Option R → OE
  | some (.sh (.bl b)) => .ok (.sh (.bl b)) e
  | _ => .bad
def cvO (f : D → D → Option R) (r : R) (e : FE.Env) : Option (List D) → OE
  | some ds => cvZ e (f (.lst ds) r.fz)
  | none => .bad
def cvH (f : D → D → Option R) (i : Nat) (ob : FE.Env → OE) (env : FE.Env) : Bool → OE
  | true => (ob env).bind (cvB f i)
  | false => .bad
theorem e_cmpV (f : D → D → Option R) (i : Nat) (ob : FE.Env → OE) (env : FE.Env) : oCmpV f i ob env = cvH f i ob env (here env[i]?) := by
  unfold oCmpV cvH
  cases here env[i]? <;> rfl
theorem e_cvH (f : D → D → Option R) (i : Nat) (ob : FE.Env → OE) (env : FE.Env) : cvH f i ob env true = (ob env).bind (cvB f i) := (rfl)
theorem e_cvB (f : D → D → Option R) (i : Nat) (r : R) (e : FE.Env) : cvB f i r e = cvO f r e (ownAt e i) := by
  unfold cvB cvO
  cases ownAt e i with
  | none => rfl
  | some ds =>
    dsimp only
    generalize f (.lst ds) r.fz = z
    unfold cvZ
    rfl
theorem e_cvO (f : D → D → Option R) (r : R) (e : FE.Env) (ds : List D) : cvO f r e (some ds) = cvZ e (f (.lst ds) r.fz) := (rfl)
theorem e_cvZ (b : Bool) (e : FE.Env) : cvZ e (some (.sh (.bl b))) = .ok (.sh (.bl b)) e := (rfl)
end FE

namespace FE
open PySem PySem.Spec PyProof.Rows L2
/-! ### zip of any two of lists and tuples -/
/-- a source: a tuple (true) or a list, its iterator -/
def SrcA (b : Bool) (h : Heap) (l : Addr) (xs : Array Value) : Prop := match b with
  | true => h.IsTuple l xs
  | false => h.IsList l xs
def ItA (b : Bool) (h : Heap) (i l : Addr) (k : Nat) : Prop := match b with
  | true => h.IsTupleIter i l k
  | false => h.IsListIter i l k
section
variable {prog : Program} {w : World} {A : Around} {E : Value → Shared → Prop} {s : Shared} {b c : Bool}
theorem ItA.obj {h : Heap} {i l : Addr} {k : Nat} (x : ItA b h i l k) : ∃ o, h.get? i = some o ∧ ∃ vs, o.data = .fields vs := by
  cases b with
  | true =>
    obtain ⟨o, e, _, d⟩ := x
    exact ⟨o, e, _, d⟩
  | false =>
    obtain ⟨o, e, _, d⟩ := x
    exact ⟨o, e, _, d⟩
theorem ItA.but {h h' : Heap} {i l z : Addr} {k : Nat} (x : ItA b h i l k) (e : Heap.ExtBut z h h') (n : i ≠ z) : ItA b h' i l k := by
  cases b with
  | true => exact Heap.IsTupleIter.extBut x e n
  | false => exact Heap.IsListIter.extBut x e n
theorem ItA.there {h h' : Heap} {i l : Addr} {k : Nat} (x : ItA b h i l k) (e : ∀ o, h.get? i = some o → h'.get? i = some o) : ItA b h' i l k := by
  cases b with
  | true => exact Heap.IsTupleIter.at x e
  | false => exact Heap.IsListIter.at x e
theorem SrcA.but {h h' : Heap} {l z : Addr} {xs : Array Value} (x : SrcA b h l xs) (e : Heap.ExtBut z h h') (n : l ≠ z) : SrcA b h' l xs := by
  cases b with
  | true => exact Heap.IsTuple.extBut x e n
  | false => exact Heap.IsList.extBut x e n
theorem nx_item {i l : Addr} {k : Nat} {xs : Array Value} {x : Value} {Q : Value → Shared → Prop} (hi : ItA b s.heap i l k) (hl : SrcA b s.heap l xs) (hx : xs[k]? = some x)
    (hQ : ∀ h', ItA b h' i l (k + 1) → Heap.SameBut i s.heap h' → Q x { s with heap := h' }) : wpAny (model prog w) A (Builtin.SmallTypes.nextOf (.ref i)) Q E s := by
  cases b with
  | true => exact RZ.nextOf_tuple_item hi hl hx hQ
  | false => exact wpAny_nextOf_list_item hi hl hx hQ
theorem nx_end {i l : Addr} {k : Nat} {xs : Array Value} {Q : Value → Shared → Prop} (hh : A.handled = none) (hi : ItA b s.heap i l k) (hl : SrcA b s.heap l xs) (hx : xs[k]? = none)
    (hE : ∀ h' e, Heap.ExtBut i s.heap h' → (∃ o, h'.get? e = some o ∧ o.cls = .type "StopIteration") → E (.ref e) { s with heap := h' }) : wpAny (model prog w) A (Builtin.SmallTypes.nextOf (.ref i)) Q E s := by
  cases b with
  | true => exact RZ.nextOf_tuple_end hh hi hl hx hE
  | false => exact wpAny_nextOf_list_end hh hi hl hx hE
/-- the next pair -/
theorem zx_item {q u v i1 i2 l1 l2 : Addr} {k1 k2 : Nat} {xs ys : Array Value} {x y p0 p1 : Value} {Q : Value → Shared → Prop} (D : ZipApart q u v i1 i2 l1 l2) (hq : IsZip s.heap q u v .none) (hu : IsPair s.heap u (.ref i1) (.ref i2)) (hv : IsPair s.heap v p0 p1)
    (g1 : ItA b s.heap i1 l1 k1) (g2 : ItA c s.heap i2 l2 k2) (s1 : SrcA b s.heap l1 xs) (s2 : SrcA c s.heap l2 ys) (hx : xs[k1]? = some x) (hy : ys[k2]? = some y)
    (hQ : ∀ h', IsZip h' q u v (rawInt s.heap.objs.size) → IsPair h' v x y → ItA b h' i1 l1 (k1 + 1) → ItA c h' i2 l2 (k2 + 1) → IsPair h' s.heap.objs.size x y → h'.objs.size = s.heap.objs.size + 1 →
      (∀ a o, a ≠ q → a ≠ v → a ≠ i1 → a ≠ i2 → s.heap.get? a = some o → h'.get? a = some o) → Q (.ref s.heap.objs.size) { s with heap := h' }) :
    wpAny (model prog w) A (Builtin.«zip.__next__» ⟨[.ref q], []⟩) (fun fin s' => ∃ r, fin = .done (.ret r) ∧ Q r s') E s := by
  show wpAny _ _ (field (.ref q) 2 >>= _) _ _ _
  refine wpAny_bind (wpAny_field hq rfl (x := .bool false) rfl ?_)
  show wpAny _ _ (field (.ref q) 3 >>= _) _ _ _
  refine wpAny_bind (wpAny_field hq rfl (x := .ref u) rfl (wpAny_bind (wpAny_seqItems hu rfl ?_)))
  show wpAny _ _ (Builtin.SmallTypes.ownedTupleIsFree (.ref q) >>= _) _ _ _
  refine wpAny_bind ?_; unfold Builtin.SmallTypes.ownedTupleIsFree
  refine wpAny_bind (wpAny_field hq rfl (x := .none) rfl (wpAny_pure ?_)); simp only [if_true]
  refine wpAny_bind (wpAny_rule (wpAny_bind (wpAny_field hq rfl (x := .ref v) rfl ?_)))
  refine wpAny_bind (wpAny_setField_rec hq (by simp) fun m1 hq1 t1 => wpAny_bind ?_)
  replace hq1 : IsZip m1 q u v .ellipsis := hq1
  simp only [List.forIn_nil, List.forIn_cons, List.zipIdx_nil, List.zipIdx_cons]
  refine wpAny_bind (wpAny_bind (wpAny_onRaise (?_ : wpAny _ _ _ _ _ _)))
  show wpAny _ _ (Builtin.SmallTypes.nextOf (.ref i1) >>= fun _ => _) _ _ _
  refine wpAny_bind (nx_item (g1.but t1.extBut D.i1z) (s1.but t1.extBut D.l1z) hx fun m2 g12 t2 => wpAny_pure ?_)
  have hv2 : IsPair m2 v p0 p1 := t2.extBut _ _ D.TOi1 (t1.extBut _ _ D.TOz hv)
  refine wpAny_bind (wpAny_seqItems hv2 rfl (wpAny_bind (wpAny_updateSeq_pair hv2 fun m3 hv3 t3 => ?_)))
  replace hv3 : IsPair m3 v x p1 := hv3
  refine wpAny_bind (wpAny_letGo (wpAny_pure ?_)); refine wpAny_bind (wpAny_bind (wpAny_onRaise (?_ : wpAny _ _ _ _ _ _)))
  show wpAny _ _ (Builtin.SmallTypes.nextOf (.ref i2) >>= fun _ => _) _ _ _
  refine wpAny_bind (nx_item (((g2.but t1.extBut D.i2z).but t2.extBut D.i12.symm).but t3.extBut D.TOi2.symm) (((s2.but t1.extBut D.l2z).but t2.extBut D.l2i1).but t3.extBut D.l2TO) hy fun m4 g24 t4 => wpAny_pure ?_)
  have hv4 : IsPair m4 v x p1 := t4.extBut _ _ D.TOi2 hv3
  refine wpAny_bind (wpAny_seqItems hv4 rfl (wpAny_bind (wpAny_updateSeq_pair hv4 fun m5 hv5 t5 => ?_)))
  replace hv5 : IsPair m5 v x y := hv5
  refine wpAny_bind (wpAny_letGo (wpAny_pure (wpAny_pure (wpAny_bind (wpAny_seqItems hv5 rfl (wpAny_bind (wpAny_newTuple ?_)))))))
  have size : m5.objs.size = s.heap.objs.size := by rw [t5.1, t4.1, t3.1, t2.1, t1.1]
  have hq5 : IsZip m5 q u v .ellipsis := t5.extBut _ _ D.TOz.symm (t4.extBut _ _ D.i2z.symm (t3.extBut _ _ D.TOz.symm (t2.extBut _ _ D.i1z.symm hq1)))
  have kept : ∀ a o, a ≠ q → a ≠ v → a ≠ i1 → a ≠ i2 → s.heap.get? a = some o → m5.get? a = some o := fun a o n1 n2 n3 n4 e =>
    t5.extBut _ _ n2 (t4.extBut _ _ n4 (t3.extBut _ _ n2 (t2.extBut _ _ n3 (t1.extBut _ _ n1 e))))
  have g15 : ItA b m5 i1 l1 (k1 + 1) := ((g12.but t3.extBut D.TOi1.symm).but t4.extBut D.i12).but t5.extBut D.TOi1.symm
  have g25 : ItA c m5 i2 l2 (k2 + 1) := g24.but t5.extBut D.TOi2.symm
  have lq : q < m5.objs.size := Heap.lt_size hq5
  show wpAny _ _ (Builtin.SmallTypes.ownedTupleHandOut (.ref q) (.ref m5.objs.size) >>= _) _ _ _
  refine wpAny_bind ?_; unfold Builtin.SmallTypes.ownedTupleHandOut
  have hq6 : IsZip (m5.push { cls := .type "tuple", data := .seq #[x, y] }) q u v .ellipsis := Heap.get?_push_of_some _ hq5
  refine wpAny_bind (wpAny_setField_rec hq6 (by simp) fun m7 hq7 t7 => ?_)
  replace hq7 : IsZip m7 q u v (rawInt m5.objs.size) := hq7
  refine wpAny_setField_rec hq7 (by simp) fun m8 hq8 t8 => wpAny_pure ⟨_, rfl, ?_⟩
  replace hq8 : IsZip m8 q u v (rawInt m5.objs.size) := hq8
  have up : ∀ a o, a ≠ q → m5.get? a = some o → m8.get? a = some o := fun a o n e => t8.extBut _ _ n (t7.extBut _ _ n (Heap.get?_push_of_some _ e))
  have hT : IsPair m8 m5.objs.size x y := t8.extBut _ _ (Nat.ne_of_gt lq) (t7.extBut _ _ (Nat.ne_of_gt lq) (Heap.get?_push_size _ rfl))
  have size8 : m8.objs.size = m5.objs.size + 1 := by rw [t8.1, t7.1, Heap.size_push]
  rw [size] at hq8 hT size8
  show Q (.ref m5.objs.size) _
  rw [size]
  exact hQ m8 hq8 (up _ _ D.TOz hv5) (g15.there fun o e => up _ o D.i1z e) (g25.there fun o e => up _ o D.i2z e) hT size8 fun a o n1 n2 n3 n4 e => up a o n1 (kept a o n1 n2 n3 n4 e)
/-- no pair any more -/
theorem zx_end {q u v i1 i2 l1 l2 : Addr} {k1 k2 : Nat} {xs ys : Array Value} {p0 p1 : Value} {Q : Fin → Shared → Prop} (hh : A.handled = none) (D : ZipApart q u v i1 i2 l1 l2) (hq : IsZip s.heap q u v .none) (hu : IsPair s.heap u (.ref i1) (.ref i2)) (hv : IsPair s.heap v p0 p1)
    (g1 : ItA b s.heap i1 l1 k1) (g2 : ItA c s.heap i2 l2 k2) (s1 : SrcA b s.heap l1 xs) (s2 : SrcA c s.heap l2 ys) (hend : xs[k1]? = none ∨ ys[k2]? = none)
    (hE : ∀ h' e, (∀ a o, a ≠ q → a ≠ v → a ≠ i1 → a ≠ i2 → s.heap.get? a = some o → h'.get? a = some o) → (∃ o, h'.get? e = some o ∧ o.cls = .type "StopIteration") → E (.ref e) { s with heap := h' }) :
    wpAny (model prog w) A (Builtin.«zip.__next__» ⟨[.ref q], []⟩) Q E s := by
  show wpAny _ _ (field (.ref q) 2 >>= _) _ _ _
  refine wpAny_bind (wpAny_field hq rfl (x := .bool false) rfl ?_)
  show wpAny _ _ (field (.ref q) 3 >>= _) _ _ _
  refine wpAny_bind (wpAny_field hq rfl (x := .ref u) rfl (wpAny_bind (wpAny_seqItems hu rfl ?_)))
  show wpAny _ _ (Builtin.SmallTypes.ownedTupleIsFree (.ref q) >>= _) _ _ _
  refine wpAny_bind ?_; unfold Builtin.SmallTypes.ownedTupleIsFree
  refine wpAny_bind (wpAny_field hq rfl (x := .none) rfl (wpAny_pure ?_)); simp only [if_true]
  refine wpAny_bind (wpAny_rule (wpAny_bind (wpAny_field hq rfl (x := .ref v) rfl ?_)))
  refine wpAny_bind (wpAny_setField_rec hq (by simp) fun m1 hq1 t1 => wpAny_bind ?_)
  replace hq1 : IsZip m1 q u v .ellipsis := hq1
  simp only [List.forIn_nil, List.forIn_cons, List.zipIdx_nil, List.zipIdx_cons]
  refine wpAny_bind (wpAny_bind (wpAny_onRaise (?_ : wpAny _ _ _ _ _ _)))
  show wpAny _ _ (Builtin.SmallTypes.nextOf (.ref i1) >>= fun _ => _) _ _ _
  by_cases hx : xs[k1]? = none
  · refine wpAny_bind (nx_end hh (g1.but t1.extBut D.i1z) (s1.but t1.extBut D.l1z) hx fun m2 e t2 he => ?_)
    obtain ⟨oe, he1, he2⟩ := he
    have hq2 : IsZip m2 q u v .ellipsis := t2 _ _ D.i1z.symm hq1
    have neq : e ≠ q := fun z => by
      subst z
      rw [hq2] at he1
      cases he1
      simp at he2
    exact wpAny_setField_rec hq2 (by simp) fun m3 _ t3 => hE m3 e (fun a o n1 _ n3 _ z => t3.extBut _ _ n1 (t2 _ _ n3 (t1.extBut _ _ n1 z))) ⟨oe, t3.extBut _ _ neq he1, he2⟩
  · obtain ⟨x, hx2⟩ : ∃ x, xs[k1]? = some x := Option.ne_none_iff_exists'.mp hx
    have hy : ys[k2]? = none := hend.resolve_left hx
    refine wpAny_bind (nx_item (g1.but t1.extBut D.i1z) (s1.but t1.extBut D.l1z) hx2 fun m2 g12 t2 => wpAny_pure ?_)
    have hv2 : IsPair m2 v p0 p1 := t2.extBut _ _ D.TOi1 (t1.extBut _ _ D.TOz hv)
    refine wpAny_bind (wpAny_seqItems hv2 rfl (wpAny_bind (wpAny_updateSeq_pair hv2 fun m3 hv3 t3 => ?_)))
    refine wpAny_bind (wpAny_letGo (wpAny_pure ?_)); refine wpAny_bind (wpAny_bind (wpAny_onRaise (?_ : wpAny _ _ _ _ _ _)))
    show wpAny _ _ (Builtin.SmallTypes.nextOf (.ref i2) >>= fun _ => _) _ _ _
    refine wpAny_bind (nx_end hh (((g2.but t1.extBut D.i2z).but t2.extBut D.i12.symm).but t3.extBut D.TOi2.symm) (((s2.but t1.extBut D.l2z).but t2.extBut D.l2i1).but t3.extBut D.l2TO) hy fun m4 e t4 he => ?_)
    obtain ⟨oe, he1, he2⟩ := he
    have hq4 : IsZip m4 q u v .ellipsis := t4 _ _ D.i2z.symm (t3.extBut _ _ D.TOz.symm (t2.extBut _ _ D.i1z.symm hq1))
    have neq : e ≠ q := fun z => by
      subst z
      rw [hq4] at he1
      cases he1
      simp at he2
    exact wpAny_setField_rec hq4 (by simp) fun m5 _ t5 => hE m5 e (fun a o n1 n2 n3 n4 z => t5.extBut _ _ n1 (t4 _ _ n4 (t3.extBut _ _ n2 (t2.extBut _ _ n3 (t1.extBut _ _ n1 z))))) ⟨oe, t5.extBut _ _ neq he1, he2⟩
theorem pyNext_zx_item {q u v i1 i2 l1 l2 : Addr} {k1 k2 : Nat} {xs ys : Array Value} {x y p0 p1 : Value} {Q : Option Value → Shared → Prop} (D : ZipApart q u v i1 i2 l1 l2) (hq : IsZip s.heap q u v .none) (hu : IsPair s.heap u (.ref i1) (.ref i2)) (hv : IsPair s.heap v p0 p1)
    (g1 : ItA b s.heap i1 l1 k1) (g2 : ItA c s.heap i2 l2 k2) (s1 : SrcA b s.heap l1 xs) (s2 : SrcA c s.heap l2 ys) (hx : xs[k1]? = some x) (hy : ys[k2]? = some y)
    (hQ : ∀ h', IsZip h' q u v (rawInt s.heap.objs.size) → IsPair h' v x y → ItA b h' i1 l1 (k1 + 1) → ItA c h' i2 l2 (k2 + 1) → IsPair h' s.heap.objs.size x y → h'.objs.size = s.heap.objs.size + 1 →
      (∀ a o, a ≠ q → a ≠ v → a ≠ i1 → a ≠ i2 → s.heap.get? a = some o → h'.get? a = some o) → Q (some (.ref s.heap.objs.size)) { s with heap := h' }) : wpAny (model prog w) A (pyNext (.ref q)) Q E s := by
  have ty : s.TypeIs (.ref q) "zip" := ⟨_, hq, rfl⟩
  unfold pyNext
  refine wpAny_bind (wpAny_attempt (wpAny_callSpecial?_slot (name := Str.ofString "__next__") ty F.slot_zip_next ?_))
  exact wpAny_call_entry F.slot_zip_next ty F.entry_zip_next (zx_item D hq hu hv g1 g2 s1 s2 hx hy fun m r1 r2 r3 r4 r5 r6 r7 => wpAny_pure (hQ m r1 r2 r3 r4 r5 r6 r7)) (F.args_zip_next_1 _)
theorem pyNext_zx_end {q u v i1 i2 l1 l2 : Addr} {k1 k2 : Nat} {xs ys : Array Value} {p0 p1 : Value} {Q : Option Value → Shared → Prop} (hh : A.handled = none) (D : ZipApart q u v i1 i2 l1 l2) (hq : IsZip s.heap q u v .none) (hu : IsPair s.heap u (.ref i1) (.ref i2)) (hv : IsPair s.heap v p0 p1)
    (g1 : ItA b s.heap i1 l1 k1) (g2 : ItA c s.heap i2 l2 k2) (s1 : SrcA b s.heap l1 xs) (s2 : SrcA c s.heap l2 ys) (hend : xs[k1]? = none ∨ ys[k2]? = none)
    (hQ : ∀ h', (∀ a o, a ≠ q → a ≠ v → a ≠ i1 → a ≠ i2 → s.heap.get? a = some o → h'.get? a = some o) → Q none { s with heap := h' }) : wpAny (model prog w) A (pyNext (.ref q)) Q E s := by
  have ty : s.TypeIs (.ref q) "zip" := ⟨_, hq, rfl⟩
  unfold pyNext
  refine wpAny_bind (wpAny_attempt (wpAny_callSpecial?_slot (name := Str.ofString "__next__") ty F.slot_zip_next ?_))
  refine wpAny_call_entry F.slot_zip_next ty F.entry_zip_next (zx_end hh D hq hu hv g1 g2 s1 s2 hend fun m e kp he => ?_) (F.args_zip_next_1 _)
  obtain ⟨o, e1, e2⟩ := he
  exact wpAny_bind (wpAny_isInstance (T := "StopIteration") (b := true) ⟨o, e1, e2⟩ isSubtype_stop (wpAny_pure (hQ _ kp)))
end
def itC : Bool → String
  | true => "tuple_iterator"
  | false => "list_iterator"
def zxH1 (b : Bool) (h : Heap) (l1 : Addr) : Heap := h.push { cls := .type (itC b), data := .fields #[.ref l1, .int 0 0] }
def zxH2 (b c : Bool) (h : Heap) (l1 l2 : Addr) : Heap := (zxH1 b h l1).push { cls := .type (itC c), data := .fields #[.ref l2, .int 0 0] }
def zxH3 (b c : Bool) (h : Heap) (l1 l2 : Addr) : Heap := (zxH2 b c h l1 l2).push { cls := .type "tuple", data := .seq #[.ref h.objs.size, .ref (zxH1 b h l1).objs.size] }
def zxH4 (b c : Bool) (h : Heap) (l1 l2 : Addr) : Heap := (zxH3 b c h l1 l2).push { cls := .type "tuple", data := .seq #[.none, .none] }
def zxH5 (b c : Bool) (h : Heap) (l1 l2 : Addr) : Heap := (zxH4 b c h l1 l2).push { cls := .type "zip", data := .fields #[.none, .bool false, .bool false, .ref (zxH2 b c h l1 l2).objs.size, .ref (zxH3 b c h l1 l2).objs.size] }
theorem meets_zx {b c : Bool} (ne : b ≠ c) (l1 l2 : Addr) (xs ys : Array Value) :
    Meets (Builtin.«zip.__new__» ⟨[.type "zip", .ref l1, .ref l2], []⟩) (fun _ R s => SrcA b s.heap l1 xs ∧ SrcA c s.heap l2 ys ∧ R (.ok (.ret (.ref (zxH4 b c s.heap l1 l2).objs.size))) { s with heap := zxH5 b c s.heap l1 l2 }) :=
  .of_wp fun prog w A R s h => by
    obtain ⟨hp, g, d, tk, os⟩ := s
    obtain ⟨a1, a2, h⟩ := h
    have hsub := sub_zip
    cases b <;> cases c
    · exact absurd rfl ne
    · have b1 : Heap.IsList (Shared.heap ⟨hp, g, d, tk, os⟩) l1 xs := a1
      have b2 : Heap.IsTuple (Shared.heap ⟨hp.push { cls := .type "list_iterator", data := .fields #[.ref l1, .int 0 0] }, g, d, tk, os⟩) l2 ys := Heap.IsTuple.push a2 _
      wp_walk using wpAny_pyIter_list b1, wpAny_pyIter_tuple b2
      exact ⟨_, rfl, h⟩
    · have b1 : Heap.IsTuple (Shared.heap ⟨hp, g, d, tk, os⟩) l1 xs := a1
      have b2 : Heap.IsList (Shared.heap ⟨hp.push { cls := .type "tuple_iterator", data := .fields #[.ref l1, .int 0 0] }, g, d, tk, os⟩) l2 ys := Heap.IsList.push a2 _
      wp_walk using wpAny_pyIter_tuple b1, wpAny_pyIter_list b2
      exact ⟨_, rfl, h⟩
    · exact absurd rfl ne
section
variable {prog : Program} {w : World} {A : Around} {E : Value → Shared → Prop} {s : Shared}
theorem ItA.new (b : Bool) {h : Heap} {i l : Addr} (e : h.get? i = some { cls := .type (itC b), data := .fields #[.ref l, .int 0 0] }) : ItA b h i l 0 := by
  cases b with
  | true => exact ⟨_, e, rfl, rfl⟩
  | false => exact ⟨_, e, rfl, rfl⟩
theorem call_zx {b c : Bool} (ne : b ≠ c) {l1 l2 : Addr} {xs ys : Array Value} {Q : Value → Shared → Prop} (a1 : SrcA b s.heap l1 xs) (a2 : SrcA c s.heap l2 ys)
    (h : ∀ h', IsZip h' (s.heap.objs.size + 4) (s.heap.objs.size + 2) (s.heap.objs.size + 3) .none → IsPair h' (s.heap.objs.size + 2) (.ref s.heap.objs.size) (.ref (s.heap.objs.size + 1)) → IsPair h' (s.heap.objs.size + 3) .none .none →
      ItA b h' s.heap.objs.size l1 0 → ItA c h' (s.heap.objs.size + 1) l2 0 → (∀ a o, s.heap.get? a = some o → h'.get? a = some o) → Q (.ref (s.heap.objs.size + 4)) { s with heap := h' }) :
    wpAny (model prog w) A (call (.type "zip") [.ref l1, .ref l2]) Q E s := by
  refine callType_new F.called_zip (by decide) (F.typeCall_zip_2 _ _) (F.newCall_zip_2 _ _) (fun o => F.args_object_init_3 o _ _) F.entry_zip_new (meets_zx ne l1 l2 xs ys) ⟨a1, a2, ?_⟩
  have n1 : (zxH1 b s.heap l1).objs.size = s.heap.objs.size + 1 := Heap.size_push ..
  have n2 : (zxH2 b c s.heap l1 l2).objs.size = s.heap.objs.size + 2 := (Heap.size_push ..).trans (by rw [n1])
  have n3 : (zxH3 b c s.heap l1 l2).objs.size = s.heap.objs.size + 3 := (Heap.size_push ..).trans (by rw [n2])
  have n4 : (zxH4 b c s.heap l1 l2).objs.size = s.heap.objs.size + 4 := (Heap.size_push ..).trans (by rw [n3])
  have up : ∀ {h : Heap} {a : Addr} {o x : Obj}, h.get? a = some o → (h.push x).get? a = some o := fun e => Heap.get?_push_of_some _ e
  have k5 : (zxH5 b c s.heap l1 l2).get? (zxH4 b c s.heap l1 l2).objs.size = some { cls := .type "zip", data := .fields #[.none, .bool false, .bool false, .ref (zxH2 b c s.heap l1 l2).objs.size, .ref (zxH3 b c s.heap l1 l2).objs.size] } := Heap.get?_push_size _ rfl
  have k4 : (zxH5 b c s.heap l1 l2).get? (zxH3 b c s.heap l1 l2).objs.size = some { cls := .type "tuple", data := .seq #[.none, .none] } := up (Heap.get?_push_size _ rfl)
  have k3 : (zxH5 b c s.heap l1 l2).get? (zxH2 b c s.heap l1 l2).objs.size = some { cls := .type "tuple", data := .seq #[.ref s.heap.objs.size, .ref (zxH1 b s.heap l1).objs.size] } := up (up (Heap.get?_push_size _ rfl))
  have k2 : (zxH5 b c s.heap l1 l2).get? (zxH1 b s.heap l1).objs.size = some { cls := .type (itC c), data := .fields #[.ref l2, .int 0 0] } := up (up (up (Heap.get?_push_size _ rfl)))
  have k1 : (zxH5 b c s.heap l1 l2).get? s.heap.objs.size = some { cls := .type (itC b), data := .fields #[.ref l1, .int 0 0] } := up (up (up (up (Heap.get?_push_size _ rfl))))
  show _ ∧ _
  rw [n2, n3, n4] at k5
  rw [n1, n2] at k3
  rw [n3] at k4
  rw [n1] at k2
  rw [n4]
  exact ⟨⟨_, k5, rfl⟩, h _ k5 k3 k4 (.new b k1) (.new c k2) fun a o e => up (up (up (up (up e))))⟩
end
/-- a readable sequence: a tuple (true), a list -/
def SqA (b : Bool) (K : PySem.W.Frag) (H : Hp) (a : Addr) (xs : List V) : Prop := match b with
  | true => SqT K H a xs
  | false => SqL K H a xs
theorem SqA.src {b : Bool} {X : Cx} {pins : List (Addr × Obj)} {σ : L2.St} {H : Hp} {s : Shared} {a : Addr} {xs : List V} (I : Inv X pins σ H s) (h : SqA b X.K H a xs) : ∃ its : List Value, Vals xs its ∧ SrcA b s.heap a its.toArray := by
  cases b with
  | true =>
    obtain ⟨its, r, p, _⟩ := I.tuple h
    exact ⟨its, r, p⟩
  | false =>
    obtain ⟨its, r, p, _⟩ := I.list h
    exact ⟨its, r, p.isList⟩
theorem SqA.inj {b : Bool} {X : Cx} {pins : List (Addr × Obj)} {σ : L2.St} {H : Hp} {s : Shared} {a : Addr} {xs ys : List V} (I : Inv X pins σ H s) (h : SqA b X.K H a xs) (h' : SqA b X.K H a ys) : xs = ys := by
  cases b with
  | true => exact I.tuple_inj h h'
  | false => exact I.list_inj h h'
theorem SrcA.lt {b : Bool} {h : Heap} {a : Addr} {xs : Array Value} (x : SrcA b h a xs) : a < h.objs.size := by
  cases b with
  | true =>
    obtain ⟨o, e, _⟩ := id (show h.IsTuple a xs from x)
    exact Heap.lt_size e
  | false =>
    obtain ⟨o, e, _⟩ := id (show h.IsList a xs from x)
    exact Heap.lt_size e
def ItzA (b c : Bool) (K : PySem.W.Frag) (a d : Addr) : It :=
  ⟨fun i H => ∃ (xs ys : List V) (x y : V), SqA b K H a xs ∧ SqA c K H d ys ∧ xs[i]? = some x ∧ ys[i]? = some y,
    fun i H v H' => ∃ T x y, v = .ref T ∧ H T = none ∧ H' = upd H T (.tup [x, y]) ∧ (∀ xs, SqA b K H a xs → xs[i]? = some x) ∧ ∀ ys, SqA c K H d ys → ys[i]? = some y,
    fun i H => ∃ xs ys : List V, SqA b K H a xs ∧ SqA c K H d ys ∧ (xs.length ≤ i ∨ ys.length ≤ i)⟩
theorem turn_zx {b c : Bool} {P : Program} {w : World} {K : PySem.W.Frag} {elts : List Expr} {kk : Nat} {tpos : Pos} {a d q u v i1 i2 : Addr} (D : ZipApart q u v i1 i2 a d) :
    Turn P w K (.Tuple elts kk tpos) (ItzA b c K a d) [q, u, v, i1, i2] q (fun i h => IsZip h q u v .none ∧ IsPair h u (.ref i1) (.ref i2) ∧ (∃ x y, IsPair h v x y) ∧ ItA b h i1 a i ∧ ItA c h i2 d i) where
  mem := List.mem_cons_self
  obj := fun i h st e he => by
    obtain ⟨hq, hu, ⟨x, y, hv⟩, g1, g2⟩ := st
    simp only [List.mem_cons, List.not_mem_nil, or_false] at he
    rcases he with rfl | rfl | rfl | rfl | rfl
    · exact ⟨_, hq, fun z k => nomatch k⟩
    · exact ⟨_, hu, fun z k => nomatch k⟩
    · exact ⟨_, hv, fun z k => nomatch k⟩
    · obtain ⟨o, e1, vs, e2⟩ := g1.obj
      exact ⟨o, e1, fun z k => by rw [e2] at k; cases k⟩
    · obtain ⟨o, e1, vs, e2⟩ := g2.obj
      exact ⟨o, e1, fun z k => by rw [e2] at k; cases k⟩
  keep := fun i h h' st k => by
    obtain ⟨hq, hu, ⟨x, y, hv⟩, g1, g2⟩ := st
    exact ⟨k q (by simp) _ hq, k u (by simp) _ hu, ⟨x, y, k v (by simp) _ hv⟩, g1.there fun o e => k i1 (by simp) o e, g2.there fun o e => k i2 (by simp) o e⟩
  item := by
    rintro X rfl rfl rfl hc i pins s σ H E I hf ⟨hq, hu, ⟨x0, y0, hv⟩, g1, g2⟩ ⟨xs, ys, x, y, sx, sy, hx, hy⟩
    obtain ⟨its, rv, p⟩ := sx.src I
    obtain ⟨its2, rv2, p2⟩ := sy.src I
    obtain ⟨w1, hw1, rw1⟩ := rv.get hx
    obtain ⟨w2, hw2, rw2⟩ := rv2.get hy
    have lq : q < s.heap.objs.size := Heap.lt_size hq
    refine pyNext_zx_item D hq hu hv g1 g2 p p2 (x := w1) (y := w2) (by simpa using hw1) (by simpa using hw2) fun m hq1 hv1 g11 g21 hT size kp => ?_
    refine ⟨_, rfl, wpAny_letOwnedTupleGo_zip (s := { s with heap := m }) hq1 fun m2 hq2 sb => ?_⟩
    have hT2 : m2.get? s.heap.objs.size = some { cls := .type "tuple", data := .seq #[w1, w2] } := (sb.2 _ (Nat.ne_of_gt lq)).trans hT
    have new : ObjOk X.prog X.w (upd H s.heap.objs.size (.tup [x, y])) m2 s.heap.objs.size (.tup [x, y]) := ⟨by show 2 ≤ sizeLine; decide, [w1, w2], .cons rw1 (.cons rw2 .nil), ⟨_, hT2, rfl, _, rfl⟩⟩
    have far : ∀ e o, e ∉ [q, u, v, i1, i2] → s.heap.get? e = some o → m2.get? e = some o := fun e o n g => by
      simp only [List.mem_cons, List.not_mem_nil, or_false, not_or] at n
      exact (sb.2 e n.1).trans (kp e o n.1 n.2.2.1 n.2.2.2.1 n.2.2.2.2 g)
    have I1 : Inv X pins σ (upd H s.heap.objs.size (.tup [x, y])) { s with heap := m2 } := I.turnedNew (t' := s.toks) (ch := [q, u, v, i1, i2]) far hf (Nat.le_refl _) new
    refine ⟨.ref s.heap.objs.size, _, I1, rfl, ⟨_, x, y, rfl, I.hok.fresh (Nat.le_refl _), rfl, fun l hl => by rw [hl.inj I sx]; exact hx, fun l hl => by rw [hl.inj I sy]; exact hy⟩, ⟨hq2, ?_, ⟨w1, w2, ?_⟩, ?_, ?_⟩, fun e he => ?_⟩
    · exact (sb.2 _ D.TIz).trans (kp _ _ D.TIz D.TITO D.TIi1 D.TIi2 hu)
    · exact (sb.2 _ D.TOz).trans hv1
    · exact g11.there fun o e => (sb.2 _ D.i1z).trans e
    · exact g21.there fun o e => (sb.2 _ D.i2z).trans e
    · have lt : e < s.heap.objs.size := by
        simp only [List.mem_cons, List.not_mem_nil, or_false] at he
        rcases he with rfl | rfl | rfl | rfl | rfl
        · exact lq
        · exact Heap.lt_size hu
        · exact Heap.lt_size hv
        · obtain ⟨o, e1, _⟩ := g1.obj
          exact Heap.lt_size e1
        · obtain ⟨o, e1, _⟩ := g2.obj
          exact Heap.lt_size e1
      rw [upd_ne (Nat.ne_of_lt lt)]
      exact (hf e he).1
  done := by
    rintro X rfl rfl rfl hc i pins s σ H E I hf ⟨hq, hu, ⟨x0, y0, hv⟩, g1, g2⟩ ⟨xs, ys, sx, sy, hend⟩
    obtain ⟨its, rv, p⟩ := sx.src I
    obtain ⟨its2, rv2, p2⟩ := sy.src I
    have e1 := rv.length
    have e2 := rv2.length
    have he : its.toArray[i]? = none ∨ its2.toArray[i]? = none := by
      rcases hend with z | z
      · exact .inl (by simp; omega)
      · exact .inr (by simp; omega)
    refine pyNext_zx_end (I.ok.hd hc) D hq hu hv g1 g2 p p2 he fun m kp => ⟨rfl, I.turnedL (t' := s.toks) (ch := [q, u, v, i1, i2]) (fun e o n g => ?_) hf⟩
    simp only [List.mem_cons, List.not_mem_nil, or_false, not_or] at n
    exact kp e o n.1 n.2.2.1 n.2.2.2.1 n.2.2.2.2 g
  self := fun A i s Q E st h => wpAny_pyIter_zip st.1 h
def iZipX (b c : Bool) (K : PySem.W.Frag) (ta : TA) : TI := fun σ H R => ta σ H fun vs H1 => ∃ a d xs ys, vs = [.ref a, .ref d] ∧ SqA b K H1 a xs ∧ SqA c K H1 d ys ∧ R (ItzA b c K a d) H1
theorem pi_zx {b c : Bool} (ne : b ≠ c) {X : Cx} {e e2 : Expr} {ta : TA} {p pos tpos : Pos} {elts : List Expr} {kk : Nat} (hg : Gl X "zip") (hm : X.mg "zip" = none) (ha : PA X [e, e2] ta)
    (hs : starEach [e, e2] X.env = (false, eval e X.env) :: starEach [e2] X.env) (hpl : (backTo pos (starEach [e2] X.env)).any (·.1) = false) :
    PI X (.Tuple elts kk tpos) (.Call (.Name "zip" p) [e, e2] [] pos) (iZipX b c X.K ta) := by
  constructor
  intro pins s σ H R I h
  refine Call_ (ld_blt I hg hm PyProof.Rows.boot_zip (PyProof.Rows.callWith_type1 (thn (ha.run pos pins s σ H _ I h) ?_) hs hpl))
  rintro us s1 ⟨vs, H1, I1, r1, a, d, xs, ys, rfl, sx, sy, hR⟩
  cases r1 with
  | cons r rr =>
    cases rr with
    | cons r' rr =>
      cases rr
      cases r
      cases r'
      obtain ⟨its, rv, p1⟩ := sx.src I1
      obtain ⟨its2, rv2, p2⟩ := sy.src I1
      refine call_zx ne p1 p2 fun m hq hu hv g1 g2 kp => wpAny_pyIter_zip hq ?_
      have I2 : Inv X pins σ H1 { s1 with heap := m } := I1.kept (t' := s1.toks) kp
      refine ⟨s1.heap.objs.size + 4, [s1.heap.objs.size + 4, s1.heap.objs.size + 2, s1.heap.objs.size + 3, s1.heap.objs.size, s1.heap.objs.size + 1], _, _, H1, rfl, I2, turn_zx (PySem.W.ktu_apart s1.heap.objs.size a d p1.lt p2.lt), ⟨hq, hu, ⟨_, _, hv⟩, g1, g2⟩, fun e he => ?_, hR⟩
      have le : s1.heap.objs.size ≤ e := by
        simp only [List.mem_cons, List.not_mem_nil, or_false] at he
        rcases he with rfl | rfl | rfl | rfl | rfl <;> omega
      exact I1.fpOk le (I1.hok.fresh le)
section
end
end FE

namespace FE
open PySem PySem.Spec PyProof.Rows L2
theorem Ex.sqA {b : Bool} {K : PySem.W.Frag} {H H' : Hp} {a : Addr} {xs : List V} (e : Ex H H') (h : SqA b K H a xs) : SqA b K H' a xs := by
  cases b with
  | true => exact e.t h
  | false => exact e.l h
theorem it_zx {b c : Bool} {G : Gd} {F : Hp} {a d : Addr} {vs ws : List V} {ds es : List D} (h : SqA b G.K F a vs) (r : RepL G F vs ds) (h' : SqA c G.K F d ws) (r' : RepL G F ws es) : ItRep G (ItzA b c G.K a d) F (zipD ds es) where
  go := fun k F1 H1 e1 e2 hk => by
    rw [zip_len] at hk
    obtain ⟨v, hv, _⟩ := r.get (List.getElem?_eq_getElem (show k < ds.length by omega))
    obtain ⟨w, hw, _⟩ := r'.get (List.getElem?_eq_getElem (show k < es.length by omega))
    exact ⟨vs, ws, v, w, (e1.trans e2).sqA h, (e1.trans e2).sqA h', hv, hw⟩
  stop := fun k F1 H1 e1 e2 hk => by
    rw [zip_len] at hk
    refine ⟨vs, ws, (e1.trans e2).sqA h, (e1.trans e2).sqA h', ?_⟩
    rw [r.length, r'.length]
    omega
  yld := fun k x F1 H1 y H2 e1 e2 hd hy => by
    obtain ⟨T, x', y', rfl, hT, rfl, f1, f2⟩ := hy
    obtain ⟨d1, d2, g1, g2, rfl⟩ := zip_get ds es k x hd
    obtain ⟨v, hv, rv⟩ := r.get g1
    obtain ⟨w, hw, rw'⟩ := r'.get g2
    have z1 := f1 vs ((e1.trans e2).sqA h)
    have z2 := f2 ws ((e1.trans e2).sqA h')
    rw [hv] at z1
    rw [hw] at z2
    cases z1
    cases z2
    have fT : F1 T = none := by
      cases q : F1 T with
      | none => rfl
      | some o =>
        rw [e2 T o q] at hT
        cases hT
    exact .inr ⟨T, _, hT, rfl, .wtp (.inl (.inl upd_same)) (.cons ((rv.mono e1).mono (Ex.new fT)) (.cons ((rw'.mono e1).mono (Ex.new fT)) .nil))⟩
def zqD : List D → Option (List D)
  | [.lst ds, .lst es] => some (zipD ds es)
  | [.tup ds, .tup es] => some (zipD ds es)
  | [.lst ds, .tup es] => some (zipD ds es)
  | [.tup ds, .lst es] => some (zipD ds es)
  | _ => none
def iZqK (ds : List D) (e : FE.Env) : OI := match zqD ds with
  | some xs => .ok xs e
  | none => .bad
def iZq (os : FE.Env → OA) : FE.Env → OI := fun env => (os env).bindI iZqK
theorem e_iZq (os : FE.Env → OA) (env : FE.Env) : iZq os env = (os env).bindI iZqK := (rfl)
theorem e_iZqK (ds : List D) (e : FE.Env) : iZqK ds e = okI (zqD ds) e := by
  unfold iZqK okI
  rfl
theorem e_zq_ll (ds es : List D) : zqD [.lst ds, .lst es] = some (zipD ds es) := (rfl)
theorem e_zq_tt (ds es : List D) : zqD [.tup ds, .tup es] = some (zipD ds es) := (rfl)
theorem e_zq_lt (ds es : List D) : zqD [.lst ds, .tup es] = some (zipD ds es) := (rfl)
theorem e_zq_tl (ds es : List D) : zqD [.tup ds, .lst es] = some (zipD ds es) := (rfl)
section
variable {X : Cx} {Z : Zd} {a b : Expr} {os : FE.Env → OA} {p pos tpos : Pos} {elts : List Expr} {kk : Nat}
theorem n_zipq (hm : X.mg "zip" = none) (hK : Z.G.K = X.K) (ha : PA X [a, b] (tA Z os)) (hg : Gl X "zip" := by rfl) (hs : starEach [a, b] X.env = (false, eval a X.env) :: starEach [b] X.env := by rfl) (hpl : (backTo pos (starEach [b] X.env)).any (·.1) = false := by rfl) :
    PI X (.Tuple elts kk tpos) (.Call (.Name "zip" p) [a, b] [] pos) (tI Z (iZq os)) := by
  refine PI.imp (PI.or (RZ.pi_zipA hg hm ha hs hpl) (PI.or (pi_zx (b := false) (c := true) (by decide) hg hm ha hs hpl) (pi_zx (b := true) (c := false) (by decide) hg hm ha hs hpl))) fun σ H Q ⟨F, env, g, h⟩ => ?_
  rw [← hK]
  unfold iZq at h
  have core : ∀ k : List V → Hp → Prop, (∀ ds env1 vs H1 F1, Good Z F1 σ H1 env1 → Ex F F1 → RepL Z.G F1 vs ds → PostI Z F1 σ Q (iZqK ds env1) → os env = .ok ds env1 → k vs H1) → tA Z os σ H k := by
    intro k c
    refine ⟨F, env, g, ?_⟩
    cases e : os env with
    | ok r env1 =>
      rw [e] at h
      exact fun vs H1 F1 g1 x1 r1 => c r env1 vs H1 F1 g1 x1 r1 (PostI.up x1 h) e
    | exc x env1 => rw [e] at h; exact h
    | bad => rw [e] at h; exact h
  cases e : os env with
  | bad => rw [e] at h; exact h.elim
  | exc x env1 => exact .inl (core _ fun ds env1 vs H1 F1 g1 x1 r1 h1 e2 => by rw [e] at e2; cases e2)
  | ok ds0 env0 =>
    have hz : ∃ xs, zqD ds0 = some xs := by
      rw [e] at h
      cases q : zqD ds0 with
      | some xs => exact ⟨xs, rfl⟩
      | none =>
        have h : PostI Z F σ Q (iZqK ds0 env0) := h
        unfold iZqK at h
        rw [q] at h
        exact h.elim
    obtain ⟨xs, hz⟩ := hz
    have fin : ∀ {env1 H1 F1 J}, Good Z F1 σ H1 env1 → PostI Z F1 σ Q (iZqK ds0 env1) → ItRep Z.G J F1 xs → Q J H1 := fun {env1 H1 F1 J} g1 h1 it => by
      unfold iZqK at h1
      rw [hz] at h1
      exact h1 _ H1 F1 g1 (Ex.refl F1) it
    unfold zqD at hz
    split at hz
    · cases hz
      refine .inl (core _ fun ds env1 vs H1 F1 g1 x1 r1 h1 e2 => ?_)
      rw [e] at e2
      cases e2
      obtain ⟨v, w, rfl, rv, rw'⟩ := r1.two
      cases rv with
      | lst l1 l2 =>
        cases rw' with
        | lst m1 m2 => exact ⟨_, _, _, _, rfl, .inl ⟨(g1.fh.lr l1).sq, (g1.fh.lr m1).sq, fin g1 h1 (it_zip l1 l2 m1 m2)⟩⟩
    · cases hz
      refine .inl (core _ fun ds env1 vs H1 F1 g1 x1 r1 h1 e2 => ?_)
      rw [e] at e2
      cases e2
      obtain ⟨v, w, rfl, rv, rw'⟩ := r1.two
      cases rv with
      | tup l1 l2 =>
        cases rw' with
        | tup m1 m2 => exact ⟨_, _, _, _, rfl, .inr ⟨g1.fh.t l1.t, g1.fh.t m1.t, fin g1 h1 (it_zipT l1.t l2 m1.t m2)⟩⟩
    · cases hz
      refine .inr (.inl (core _ fun ds env1 vs H1 F1 g1 x1 r1 h1 e2 => ?_))
      rw [e] at e2
      cases e2
      obtain ⟨v, w, rfl, rv, rw'⟩ := r1.two
      cases rv with
      | lst l1 l2 =>
        cases rw' with
        | tup m1 m2 => exact ⟨_, _, _, _, rfl, (g1.fh.lr l1).sq, g1.fh.t m1.t, fin g1 h1 (it_zx (b := false) (c := true) l1.sq l2 m1.t m2)⟩
    · cases hz
      refine .inr (.inr (core _ fun ds env1 vs H1 F1 g1 x1 r1 h1 e2 => ?_))
      rw [e] at e2
      cases e2
      obtain ⟨v, w, rfl, rv, rw'⟩ := r1.two
      cases rv with
      | tup l1 l2 =>
        cases rw' with
        | lst m1 m2 => exact ⟨_, _, _, _, rfl, g1.fh.t l1.t, (g1.fh.lr m1).sq, fin g1 h1 (it_zx (b := true) (c := false) l1.t l2 m1.sq m2)⟩
    · cases hz
end
end FE

namespace FE
open PySem PySem.Spec PyProof.Rows L2
def asgO : Option FE.Env → OS
  | some e => .nx e
  | none => .bad
def asgTK (f : D → FE.Env → Option FE.Env) (r : R) (e : FE.Env) : OS := asgO (f r.fz e)
def sAsgT (f : D → FE.Env → Option FE.Env) (oa : FE.Env → OE) : FE.Env → OS := fun env => (oa env).bindS (asgTK f)
theorem e_asgT (f : D → FE.Env → Option FE.Env) (oa : FE.Env → OE) (env : FE.Env) : sAsgT f oa env = (oa env).bindS (asgTK f) := (rfl)
theorem e_asgTK (f : D → FE.Env → Option FE.Env) (r : R) (e : FE.Env) : asgTK f r e = asgO (f r.fz e) := (rfl)
theorem e_asgO (e : FE.Env) : asgO (some e) = .nx e := (rfl)
section
variable {X : Cx} {Z : Zd} {a tg : Expr} {oa : FE.Env → OE} {ok : FE.Env → OA} {pos : Pos} {ws : List Nat} {g : TG} {f : D → FE.Env → Option FE.Env}
theorem n_asgT (ws : List Nat) (ha : PE X a (tE Z oa)) (hg : PG X tg g) (ht : TgOk Z.G ws g f) (hs : swapsWithSole [tg] a pos.line X.env = pure false := by rfl) (hw : swappedStores [tg] a X.env = pure none := by rfl)
    (h1 : (assignEach [tg] X.env).map (·.2) = [assign tg X.env] := by rfl) : PS X (.Assign [tg] a pos) (tS Z (sAsgT f oa)) := by
  refine PS.imp (ps_asg ha hg hs hw h1) fun Dn σ H ⟨F, env, gd, h⟩ => ?_
  refine seqES gd h fun r env1 v H1 F1 g1 x1 r1 h1 => ?_
  obtain ⟨F2, g2, x2, r2⟩ := g1.give r1
  replace h1 := PostS.up x2 h1
  unfold asgTK at h1
  cases q : f r.fz env1 with
  | none => rw [q] at h1; exact h1.elim
  | some env2 =>
    rw [q] at h1
    exact ht Z F2 σ H1 env1 env2 v _ _ rfl g2 r2 q fun σ' g3 _ _ => h1 σ' H1 F2 g3 (Ex.refl F2)
/-- f(k = v, ..) -/
def oCall0 (f : List D → OC) (m : Nat) (ok : FE.Env → OA) : FE.Env → OE := fun env => (ok env).bindE (calK2 f 0 m (fun _ es => es) [])
theorem e_call0 (f : List D → OC) (m : Nat) (ok : FE.Env → OA) (env : FE.Env) : oCall0 f m ok env = (ok env).bindE (calK2 f 0 m (fun _ es => es) []) := (rfl)
theorem n_call0 {k np : Nat} {ks : List PySem.Str} {fo : List D → OC} {x : PySem.Str} {p : Pos} {kws : List Keyword} (c : Cal X.prog X.w X.K X.mg X.base k x 0 ks (fun _ zs => zs) (spF Z.G Z.C np none fo)) (hx : RoomX k X) (tk : Takes X Z.W) (hnp : np = ks.length) (hkw : PK X kws (tA Z ok))
    (hgl : Gl X x := by rfl) (hall : (backToKw pos (keywordEach kws X.env)).all (·.1.isSome) = true := by rfl) (hks : (backToKw pos (keywordEach kws X.env)).filterMap (·.1) = ks := by rfl)
    (hdb : (x == ("__debug__" : PySem.Str)) = false := by decide) (hpl : ((backTo pos (starEach [] X.env)).any (·.1) || (backToKw pos (keywordEach kws X.env)).any (·.1.isNone)) = false := by rfl) :
    PE X (.Call (.Name x p) [] kws pos) (tE Z (oCall0 fo ks.length ok)) := by
  obtain ⟨f, fd, ps, gg, hm, hk, F, hb⟩ := c.ex
  constructor
  rintro pins s σ H Q I ⟨F0, env, gd, h⟩
  refine wpAny_Call_Name_kw (ld_glob I hgl hm ?_ hdb)
  refine PySem.W.callWith_KW0 (h₀ := X.base) I.ok.mod.kin hk hall ?_ hpl
  have h0 : tA Z ok σ H (fun zs H2 => zs.length = ks.length ∧ spF Z.G Z.C np none fo zs H2 Q (fun cls d H' => Z.W cls d σ H')) := by
    refine seqAE gd h fun es env2 zs H2 F2 g2 x2 r2 h2 => ?_
    unfold calK2 at h2
    split at h2
    case isFalse => exact h2.elim
    rename_i hl
    have l2 : zs.length = ks.length := r2.length.trans hl.2
    refine ⟨l2, F2, es, [], l2.trans hnp.symm, argsOk_all g2.fh r2, ?_⟩
    cases q : fo es with
    | bad => rw [q] at h2; exact h2
    | exc y out =>
      rw [q] at h2
      exact fun cls d H' F' b rx => h2 cls d H' F' (g2.callee b (fun a h => by cases h) (fun a h => by cases h)) b.ff rx
    | ret r out =>
      rw [q] at h2
      exact fun v H' F' b rr => h2 v H' F' (g2.callee b (fun a h => by cases h) (fun a h => by cases h)) b.ff (retOk_rep g2 (fun j s e1 e2 => ⟨s, e1, e2⟩) rr)
  refine thn (hkw.run pos pins s σ H _ I h0) ?_
  rintro us s2 ⟨zs, H2, I2, rz, l2, q2⟩
  refine ⟨I2.kIn, ?_⟩
  rw [hks]
  have r2 := hb.rel (vs := []) (us := []) .nil rz
  have bt := hb.to s2 [] us I2.kIn rfl (rz.length.symm.trans l2)
  refine wpAny_call (codeAny_mono (F.run X.A X.stack s2 H2 ⟨[], ks.zip us⟩ (gg [] us) zs Q (fun cls d H' => Z.W cls d σ H') hx.r hx.g I2.env0 bt r2 q2) ?_)
  intro r s' hq
  cases r with
  | error e => exact tk e s' (XE.of_call I2 (fun _ _ _ z => z) hq)
  | ok fl =>
    cases fl with
    | ret u => exact I2.after hq
    | next => exact False.elim hq
    | brk => exact False.elim hq
    | cont => exact False.elim hq
end
/-- .. all by name -/
theorem cal_k0 {P : Program} {w : World} {K : PySem.W.Frag} {mg : PySem.Str → Option Value} {base h : Heap} {k : Nat} {x : PySem.Str} {params : Arguments} {body : List Stmt} {scope : Scope} {fd : FuncData} {ps : List PySem.Str} {sp : Sp} (ks : List PySem.Str)
    (X : K.In h) (G : h.Ns mainGlobals mg) (g : (He.Fa.glo x).ok K = true) (F : FunD K x x params body scope [] [] (He.ga K x) fd) (fn : FnG P w K mg base k (He.ga K x) fd ps sp)
    (b : ∀ (kV doc pm : Value) (an : Option Addr) (cdv ct : Value) (ws : List Value), ws.length = ks.length → bindArgs (PySem.W.fnOf x x params body scope .none kV doc pm an cdv ct) ⟨[], ks.zip ws⟩ = pure (ps.zip ws)) : Cal P w K mg base k x 0 ks (fun _ zs => zs) sp := by
  refine ⟨_, fd, ps, fun _ ws => ws, He.glo_ok X G g, F.kp, fn, ?_⟩
  obtain ⟨oc, od, dV, kV, doc, pm, an, cdv, ct, osl, rfl, lk, hcd, hD, hK⟩ := F.ex
  rcases hD with ⟨_, rfl⟩ | ⟨e, _⟩
  · constructor
    · intro s us ws KX l1 l2
      have : us = [] := List.length_eq_zero_iff.mp l1
      subst this
      exact .of_eq (b kV doc pm an cdv ct ws l2)
    · exact fun _ r2 => r2
  · exact absurd rfl e
end FE

namespace FE
open PySem PySem.Spec PyProof.Rows L2
/-! ### rows of numbers -/
def dot : List Int → List Int → Int
  | a :: as, b :: bs => a * b + dot as bs
  | _, _ => 0
/-- what a row is worth at values -/
def rwv : List Int → List Int → Int
  | x :: xs, vs => x + dot xs vs
  | [], _ => 0
def addZ (t : Int) : List Int → List Int → List Int
  | h :: hs, m :: ms => (h + t * m) :: addZ t hs ms
  | _, _ => []
/-- all rows added, each times its weight -/
def addS : List Int → List (List Int) → List Int → List Int
  | tot, r :: rs, t :: ts => addS (addZ t tot r) rs ts
  | tot, _, _ => tot
theorem addZ_len (t : Int) : ∀ (a b : List Int), a.length = b.length → (addZ t a b).length = a.length
  | [], [], _ => rfl
  | h :: hs, m :: ms, e => by
    show (addZ t hs ms).length + 1 = hs.length + 1
    rw [addZ_len t hs ms (by simpa using e)]
  | [], _ :: _, e => by simp at e
  | _ :: _, [], e => by simp at e
theorem dot_add (t : Int) : ∀ (a b vs : List Int), a.length = b.length → dot (addZ t a b) vs = dot a vs + t * dot b vs
  | [], [], vs, _ => by simp [addZ, dot]
  | h :: hs, m :: ms, [], _ => by simp [addZ, dot]
  | h :: hs, m :: ms, v :: vs, e => by
    have ih := dot_add t hs ms vs (by simpa using e)
    show (h + t * m) * v + dot (addZ t hs ms) vs = h * v + dot hs vs + t * (m * v + dot ms vs)
    rw [ih, Int.add_mul, Int.mul_add, Int.mul_assoc]
    omega
  | [], _ :: _, _, e => by simp at e
  | _ :: _, [], _, e => by simp at e
theorem rwv_add (t : Int) : ∀ (a b vs : List Int), a.length = b.length → rwv (addZ t a b) vs = rwv a vs + t * rwv b vs
  | [], [], vs, _ => by simp [addZ, rwv]
  | h :: hs, m :: ms, vs, e => by
    have ih := dot_add t hs ms vs (by simpa using e)
    show h + t * m + dot (addZ t hs ms) vs = h + dot hs vs + t * (m + dot ms vs)
    rw [ih, Int.mul_add]
    omega
  | [], _ :: _, _, e => by simp at e
  | _ :: _, [], _, e => by simp at e
/-- the worths, weighed -/
def weigh (vs : List Int) : List (List Int) → List Int → Int
  | r :: rs, t :: ts => t * rwv r vs + weigh vs rs ts
  | _, _ => 0
theorem rwv_all (vs : List Int) : ∀ (rs : List (List Int)) (ts tot : List Int), (∀ r ∈ rs, r.length = tot.length) → rwv (addS tot rs ts) vs = rwv tot vs + weigh vs rs ts
  | [], ts, tot, _ => by
    cases ts <;> simp [addS, weigh]
  | r :: rs, [], tot, _ => by simp [addS, weigh]
  | r :: rs, t :: ts, tot, h => by
    have hr := h r List.mem_cons_self
    have ih := rwv_all vs rs ts (addZ t tot r) fun q hq => by
      rw [addZ_len t tot r hr.symm]
      exact h q (List.mem_cons_of_mem _ hq)
    show rwv (addS (addZ t tot r) rs ts) vs = rwv tot vs + (t * rwv r vs + weigh vs rs ts)
    rw [ih, rwv_add t tot r vs hr.symm]
    omega
/-- a column's sum -/
def col (i : Nat) : List (List Int) → List Int → Int
  | r :: rs, t :: ts => t * r.getD i 0 + col i rs ts
  | _, _ => 0
theorem addZ_get (t : Int) : ∀ (a b : List Int) (i : Nat), a.length = b.length → (addZ t a b).getD i 0 = a.getD i 0 + t * b.getD i 0
  | [], [], i, _ => by simp [addZ]
  | h :: hs, m :: ms, 0, _ => by simp [addZ]
  | h :: hs, m :: ms, i + 1, e => by
    have ih := addZ_get t hs ms i (by simpa using e)
    simpa [addZ] using ih
  | [], _ :: _, _, e => by simp at e
  | _ :: _, [], _, e => by simp at e
theorem addS_get (i : Nat) : ∀ (rs : List (List Int)) (ts tot : List Int), (∀ r ∈ rs, r.length = tot.length) → (addS tot rs ts).getD i 0 = tot.getD i 0 + col i rs ts
  | [], ts, tot, _ => by
    cases ts <;> simp [addS, col]
  | r :: rs, [], tot, _ => by simp [addS, col]
  | r :: rs, t :: ts, tot, h => by
    have hr := h r List.mem_cons_self
    have ih := addS_get i rs ts (addZ t tot r) fun q hq => by
      rw [addZ_len t tot r hr.symm]
      exact h q (List.mem_cons_of_mem _ hq)
    show (addS (addZ t tot r) rs ts).getD i 0 = tot.getD i 0 + (t * r.getD i 0 + col i rs ts)
    rw [ih, addZ_get t tot r i hr.symm]
    omega
theorem addS_len : ∀ (rs : List (List Int)) (ts tot : List Int), (∀ r ∈ rs, r.length = tot.length) → (addS tot rs ts).length = tot.length
  | [], ts, tot, _ => by
    cases ts <;> rfl
  | r :: rs, [], tot, _ => rfl
  | r :: rs, t :: ts, tot, h => by
    have hr := h r List.mem_cons_self
    show (addS (addZ t tot r) rs ts).length = tot.length
    rw [addS_len rs ts (addZ t tot r) fun q hq => by
      rw [addZ_len t tot r hr.symm]
      exact h q (List.mem_cons_of_mem _ hq), addZ_len t tot r hr.symm]
theorem dot_zero (n : Nat) : ∀ vs : List Int, dot (List.replicate n 0) vs = 0 := by
  induction n with
  | zero => intro vs; cases vs <;> rfl
  | succ n ih =>
    intro vs
    cases vs with
    | nil => rfl
    | cons v vs =>
      show 0 * v + dot (List.replicate n 0) vs = 0
      rw [ih, Int.zero_mul]
      rfl
theorem rwv_zero (n : Nat) (vs : List Int) : rwv (List.replicate n 0) vs = 0 := by
  cases n with
  | zero => rfl
  | succ n =>
    show 0 + dot (List.replicate n 0) vs = 0
    rw [dot_zero]
    rfl
/-! ### enumerate, as equations -/
def enD : List D → Option (List D)
  | [.lst ds] => some (enumD 0 ds)
  | _ => none
def iEnK (ds : List D) (e : FE.Env) : OI := okI (enD ds) e
theorem e_iEn (os : FE.Env → OA) (env : FE.Env) : iEnm os env = (os env).bindI iEnK := by
  unfold iEnm
  congr 1
  funext ds e
  unfold iEnK enD
  split
  · rfl
  · first
    | rfl
    | (rename_i h1
       split
       · exact absurd rfl (h1 _)
       · rfl)
theorem e_iEnK (ds : List D) (e : FE.Env) : iEnK ds e = okI (enD ds) e := (rfl)
theorem e_enD (ds : List D) : enD [.lst ds] = some (enumD 0 ds) := (rfl)
theorem at_nat {xs : List Int} {k : Nat} (h : k < xs.length) : L2.atI (intsL xs) (k : Int) = some (.int xs[k]) := by
  unfold L2.atI L2.ixN intsL
  rw [if_pos (by omega), if_pos (by rw [List.length_map]; omega)]
  show (xs.map D.int)[(k : Int).toNat]? = _
  rw [Int.toNat_natCast, List.getElem?_map, List.getElem?_eq_getElem h]
  rfl
/-- the products of two rows -/
def prods : List Int → List Int → List Int
  | a :: as, b :: bs => (a * b) :: prods as bs
  | _, _ => []
theorem prods_sum : ∀ a b : List Int, (prods a b).sum = dot a b
  | [], _ => by simp [prods, dot]
  | _ :: _, [] => by simp [prods, dot]
  | a :: as, b :: bs => by
    show (a * b :: prods as bs).sum = a * b + dot as bs
    rw [List.sum_cons, prods_sum as bs]
end FE

namespace FE
open PySem PySem.Spec PyProof.Rows L2
/-! a list that is never changed is shared as soon as it has a name -/
def sAsgF (i : Nat) (oa : Env → OE) : Env → OS := fun env => (oa env).bindS fun r e1 => if noIo e1[i]? = true then .nx (e1.set i (.sh r.fz)) else .bad
section
variable {X : Cx} {Z : Zd} {oa : Env → OE} {st : Stmt} {i : Nat}
theorem set_set {α : Type} {l : List α} {x y : α} : ∀ {i : Nat}, (l.set i x).set i y = l.set i y := by
  intro i
  rw [List.set_set]
theorem n_frz (h : PS X st (tS Z (sAsg i oa))) : PS X st (tS Z (sAsgF i oa)) := by
  refine PS.imp h fun Dn σ H ⟨F, env, g, h⟩ => ⟨F, env, g, ?_⟩
  unfold sAsgF at h
  unfold sAsg
  cases e : oa env with
  | bad => rw [e] at h; exact h
  | exc x e1 => rw [e] at h; exact h
  | ok r e1 =>
    rw [e] at h
    unfold OE.bindS at h ⊢
    dsimp only at h ⊢
    by_cases hn : noIo e1[i]? = true
    · rw [if_pos hn] at h ⊢
      cases r with
      | sh d => exact h
      | ow ds =>
        intro σ' H' F' g' x
        by_cases hi : i < e1.length
        · have ge : (e1.set i (R.ow ds).sv)[i]? = some (.ow ds) := by
            rw [List.getElem?_set_self hi]
            rfl
          obtain ⟨a, vs, h1, h2, h3, h4⟩ := g'.frzAt ge
          refine h σ' H' _ ?_ (x.trans h3)
          rw [set_set] at h4
          exact h4
        · refine h σ' H' F' ?_ x
          rw [List.set_eq_of_length_le (by omega)] at g' ⊢
          exact g'
    · rw [if_neg hn] at h
      exact h.elim
end
def asfB (i : Nat) (r : R) (e : FE.Env) : Bool → OS
  | true => .nx (e.set i (.sh r.fz))
  | false => .bad
def asfK (i : Nat) (r : R) (e : FE.Env) : OS := asfB i r e (noIo e[i]?)
theorem e_asf (i : Nat) (oa : FE.Env → OE) (env : FE.Env) : sAsgF i oa env = (oa env).bindS (asfK i) := by
  unfold sAsgF
  congr 1
  funext r e
  unfold asfK asfB
  cases noIo e[i]? <;> rfl
theorem e_asfK (i : Nat) (r : R) (e : FE.Env) : asfK i r e = asfB i r e (noIo e[i]?) := (rfl)
theorem e_asfB (i : Nat) (r : R) (e : FE.Env) : asfB i r e true = .nx (e.set i (.sh r.fz)) := (rfl)
end FE

namespace FE
open PySem PySem.Spec PyProof.Rows L2
/-! ### comprehensions over items that are images -/
theorem lcL_of {α : Type} {f : D → FE.Env → Option FE.Env} {ot : FE.Env → OT} {oe : FE.Env → OE} {ws : List Nat} (env : FE.Env) (g h : α → D) : ∀ (xs : List α) (acc : List D), acc.length + xs.length ≤ 1000000 →
    (∀ x ∈ xs, ∃ e1 e2 e3 r, f (g x) env = some e1 ∧ ot e1 = .ok true e2 ∧ oe e2 = .ok r e3 ∧ r.fz = h x ∧ (ws.all fun v => noIo e3[v]?) = true ∧ wipeE e3 ws = env) → lcL f ot oe ws (xs.map g) env acc = some (acc ++ xs.map h, env)
  | [], acc, _, _ => by
    show lcL f ot oe ws [] env acc = _
    rw [lcL, List.map_nil, List.append_nil]
  | x :: xs, acc, hl, hh => by
    obtain ⟨e1, e2, e3, r, h1, h2, h3, h4, h5, h6⟩ := hh x List.mem_cons_self
    rw [List.length_cons] at hl
    have ih := lcL_of env g h xs (acc ++ [h x]) (by rw [List.length_append, List.length_singleton]; omega) fun y hy => hh y (List.mem_cons_of_mem _ hy)
    show lcL f ot oe ws (g x :: xs.map g) env acc = _
    rw [lcL, h1]
    dsimp only
    rw [h2]
    dsimp only
    rw [h3]
    dsimp only
    rw [if_pos ⟨h5, by omega⟩, h6, h4, ih, List.append_assoc]
    rfl
/-- .. with a test -/
theorem lcL_if {α : Type} {f : D → FE.Env → Option FE.Env} {ot : FE.Env → OT} {oe : FE.Env → OE} {ws : List Nat} (env : FE.Env) (g h : α → D) (p : α → Bool) : ∀ (xs : List α) (acc : List D), acc.length + xs.length ≤ 1000000 →
    (∀ x ∈ xs, ∃ e1 e2, f (g x) env = some e1 ∧ ot e1 = .ok (p x) e2 ∧ (p x = true → ∃ e3 r, oe e2 = .ok r e3 ∧ r.fz = h x ∧ (ws.all fun v => noIo e3[v]?) = true ∧ wipeE e3 ws = env) ∧ (p x = false → (ws.all fun v => noIo e2[v]?) = true ∧ wipeE e2 ws = env)) →
    lcL f ot oe ws (xs.map g) env acc = some (acc ++ (xs.filter p).map h, env)
  | [], acc, _, _ => by
    show lcL f ot oe ws [] env acc = _
    rw [lcL, List.filter_nil, List.map_nil, List.append_nil]
  | x :: xs, acc, hl, hh => by
    obtain ⟨e1, e2, h1, h2, h3, h4⟩ := hh x List.mem_cons_self
    rw [List.length_cons] at hl
    show lcL f ot oe ws (g x :: xs.map g) env acc = _
    rw [lcL, h1]
    dsimp only
    cases q : p x with
    | true =>
      obtain ⟨e3, r, k1, k2, k3, k4⟩ := h3 q
      have ih := lcL_if env g h p xs (acc ++ [h x]) (by rw [List.length_append, List.length_singleton]; omega) fun y hy => hh y (List.mem_cons_of_mem _ hy)
      rw [h2, q]
      dsimp only
      rw [k1]
      dsimp only
      rw [if_pos ⟨k3, by omega⟩, k4, k2, ih, List.append_assoc, List.filter_cons_of_pos q]
      rfl
    | false =>
      obtain ⟨k1, k2⟩ := h4 q
      have ih := lcL_if env g h p xs acc (by omega) fun y hy => hh y (List.mem_cons_of_mem _ hy)
      rw [h2, q]
      dsimp only
      rw [if_pos k1, k2, ih, List.filter_cons_of_neg (by rw [q]; decide)]
theorem A2.to {α : Type} {Q : D → D → Prop} (mk : α → D) {P : α → Prop} (h : ∀ d e, Q d e → ∃ a, e = mk a ∧ P a) : ∀ {ds es : List D}, A2 Q ds es → ∃ as : List α, es = as.map mk ∧ as.length = ds.length ∧ ∀ a ∈ as, P a
  | _, _, .nil => ⟨[], rfl, rfl, fun a ha => by cases ha⟩
  | _, _, .cons p r => by
    obtain ⟨a, rfl, ha⟩ := h _ _ p
    obtain ⟨as, rfl, hl, hs⟩ := A2.to mk h r
    exact ⟨a :: as, rfl, by rw [List.length_cons, hl, List.length_cons], fun b hb => by
      rcases List.mem_cons.mp hb with rfl | hb
      · exact ha
      · exact hs b hb⟩
theorem all_true {rs : List D} {ds : List D} (h : A2 (fun _ r => r = .bl true) ds rs) : bolF (fun bs => bs.all id) [.lst rs] = some (.sh (.bl true)) := by
  have hb : bolsD rs = some (rs.map fun _ => true) := by
    induction h with
    | nil => rfl
    | cons h _ ih =>
      subst h
      simp only [bolsD, ih, List.map_cons, Option.map_some]
  unfold bolF
  dsimp only
  rw [hb]
  show some (R.sh (D.bl ((rs.map fun _ => true).all id))) = _
  congr 3
  simp
theorem rng_mem {n : Nat} {d : D} (h : d ∈ rngD 0 n) : ∃ j : Nat, j < n ∧ d = .int (j : Int) := by
  obtain ⟨i, hi⟩ := List.getElem?_of_mem h
  have hlt := (List.getElem?_eq_some_iff.mp hi).1
  rw [rng_len] at hlt
  refine ⟨i, hlt, ?_⟩
  rw [rng_get hi, Int.zero_add]
theorem rng_map (n : Nat) : rngD 0 n = (List.range n).map fun k : Nat => D.int (k : Int) := by
  unfold rngD
  congr 1
  funext k
  rw [Int.zero_add]
theorem ints_inj : ∀ {xs ys : List Int}, intsL xs = intsL ys → xs = ys
  | [], [], _ => rfl
  | [], _ :: _, e => by cases e
  | _ :: _, [], e => by cases e
  | x :: xs, y :: ys, e => by
    have h1 := (List.cons.inj e).1
    have h2 := (List.cons.inj e).2
    rw [D.int.inj h1, ints_inj h2]
theorem repr_int {i : Int} (h1 : -(10 ^ 300) ≤ i) (h2 : i ≤ 10 ^ 300) : ∃ S, reprF [.int i] = some (.sh (.str S)) := ⟨_, repr_ok (showInt h1 h2) (by omega) (by omega)⟩
theorem e_lstF_l (ds : List D) : lstF [.lst ds] = some (.ow ds) := (rfl)
theorem e_lstF_t (ds : List D) : lstF [.tup ds] = some (.ow ds) := (rfl)
theorem rng_succ (k : Nat) (m : Nat) : rngD (k : Int) (m + 1) = .int (k : Int) :: rngD ((k + 1 : Nat) : Int) m := by
  unfold rngD
  rw [List.range_succ_eq_map, List.map_cons, List.map_map]
  have h1 : (k : Int) + ((0 : Nat) : Int) = (k : Int) := by omega
  have h2 : ∀ j : Nat, (k : Int) + ((j + 1 : Nat) : Int) = ((k + 1 : Nat) : Int) + (j : Int) := fun j => by omega
  rw [h1]
  congr 1
  apply List.map_congr_left
  intro j _
  show D.int ((k : Int) + ((j + 1 : Nat) : Int)) = D.int (((k + 1 : Nat) : Int) + (j : Int))
  rw [h2]
end FE

namespace FE
open PySem PySem.Spec PyProof.Rows L2
/-! ### what is never reached -/
def sBad : Env → OS := fun _ => .bad
def oBad : Env → OE := fun _ => .bad
section
variable {X : Cx} {Z : Zd} {st : Stmt} {e : Expr}
theorem n_bad : PS X st (tS Z sBad) := ⟨fun pins s σ H D I h => by
  obtain ⟨F, env, g, h⟩ := h
  exact h.elim⟩
theorem n_badE : PE X e (tE Z oBad) := ⟨fun pins s σ H Q I h => by
  obtain ⟨F, env, g, h⟩ := h
  exact h.elim⟩
end
/-! ### attributes -/
def atD (c f : PySem.Str) : D → Option D
  | .obj c' ns ds => if c' = c then (ns.zip ds).lookup f else none
  | _ => none
def oAttr (c f : PySem.Str) (oa : Env → OE) : Env → OE := fun env => (oa env).bind fun r e1 => match atD c f r.fz with
  | some d => .ok (.sh d) e1
  | none => .bad
theorem RepL.look {G : Gd} {F : Hp} {f : PySem.Str} {d : D} : ∀ {ns : List PySem.Str} {vs : List V} {ds : List D}, RepL G F vs ds → (ns.zip ds).lookup f = some d → ∃ v, (ns.zip vs).lookup f = some v ∧ Rep G F v d
  | [], _, _, _, e => by cases e
  | n :: ns, _, _, .nil, e => by cases e
  | n :: ns, _, _, .cons (v := v) (vs := vs) (d := d') (ds := ds) h r, e => by
    rw [List.zip_cons_cons, List.lookup_cons] at e ⊢
    cases q : (f == n) with
    | true =>
      rw [q] at e
      cases e
      exact ⟨v, rfl, h⟩
    | false =>
      rw [q] at e
      exact RepL.look r e
theorem zip_none {f : PySem.Str} : ∀ {ns : List PySem.Str} {vs : List V}, f ∉ ns → (ns.zip vs).lookup f = none
  | [], _, _ => rfl
  | _ :: _, [], _ => rfl
  | n :: ns, v :: vs, h => by
    rw [List.zip_cons_cons, List.lookup_cons]
    have ne : (f == n) = false := by
      cases q : (f == n) with
      | false => rfl
      | true => exact absurd (beq_iff_eq.mp q ▸ List.mem_cons_self) h
    rw [ne]
    exact zip_none fun q => h (List.mem_cons_of_mem _ q)
section
variable {X : Cx} {Z : Zd} {a : Expr} {oa : Env → OE} {c f : PySem.Str} {C : Addr} {pos : Pos}
theorem n_attr (hc : Cls X.K C) (hg : Z.G.mg c = some (.ref C)) (hn : NoAttr X.K C f) (ha : PE X a (tE Z oa)) (hb : attributeBase a f X.env (eval a X.env) = eval a X.env := by rfl) : PE X (.Attribute a f pos) (tE Z (oAttr c f oa)) := by
  refine PE.imp (pe_fld ha hb) fun σ H Q ⟨F, env, g, h⟩ => ?_
  refine seqE g h fun r1 env1 v1 H1 F1 g1 x1 rp1 h1 => ?_
  cases q : r1.fz with
  | obj c' ns ds =>
    rw [q] at h1 rp1
    dsimp only [atD] at h1
    by_cases ec : c' = c
    · subst ec
      rw [if_pos rfl] at h1
      cases rp1 with
      | obj e1 e2 e3 e4 e5 =>
        rw [hg] at e3
        cases e3
        cases ql : (ns.zip ds).lookup f with
        | none => rw [ql] at h1; exact h1.elim
        | some d =>
          rw [ql] at h1
          obtain ⟨v, k1, k2⟩ := e5.look ql
          exact ⟨_, _, _, _, v, rfl, g1.fh _ _ e1, hc, hn, k1, h1 v H1 F1 g1 (Ex.refl F1) k2⟩
    · rw [if_neg ec] at h1
      exact h1.elim
  | non => rw [q] at h1; exact h1.elim
  | bl b => rw [q] at h1; exact h1.elim
  | int i => rw [q] at h1; exact h1.elim
  | str x => rw [q] at h1; exact h1.elim
  | tup ds => rw [q] at h1; exact h1.elim
  | wtp ds => rw [q] at h1; exact h1.elim
  | lst ds => rw [q] at h1; exact h1.elim
  | dic ks ds => rw [q] at h1; exact h1.elim
  | dev j x => rw [q] at h1; exact h1.elim
end

/-! ### methods -/
structure CalM (P : Program) (w : World) (K : PySem.W.Frag) (mg : PySem.Str → Option Value) (base : Heap) (k : Nat) (C : Addr) (m : PySem.Str) (n : Nat) (sp : Sp) : Prop where
  ex : ∃ (f : Addr) (fd : FuncData) (ps : List PySem.Str), Meth K C m f ∧ FnG P w K mg base k f fd ps sp ∧ KBn K fd ps n [] (fun us _ => us) (fun vs _ => vs)
theorem CalM.mono {P : Program} {w : World} {K : PySem.W.Frag} {mg : PySem.Str → Option Value} {base : Heap} {j k : Nat} {C : Addr} {m : PySem.Str} {n : Nat} {sp : Sp} (h : CalM P w K mg base j C m n sp) (l : j ≤ k) : CalM P w K mg base k C m n sp := by
  obtain ⟨f, fd, ps, h1, h2, h3⟩ := h.ex
  exact ⟨f, fd, ps, h1, h2.mono l, h3⟩
section
variable {X : Cx} {k n : Nat} {sp : Sp} {W : WX} {C f : Addr} {fd : FuncData} {ps : List PySem.Str} {m : PySem.Str} {pos apos : Pos} {o : Expr}
theorem run_N {pins : List (Addr × Obj)} {σ : L2.St} {H : Hp} {s : Shared} {Q : VK} {us : List Value} {vs : List V} (F : FnG X.prog X.w X.K X.mg X.base k f fd ps sp) (hx : RoomX k X) (hb : KBn X.K fd ps n [] (fun us _ => us) (fun vs _ => vs)) (tks : Takes X W)
    (I : Inv X pins σ H s) (r : Vals vs us) (l1 : vs.length = n) (h : sp vs H Q (fun cls d H' => W cls d σ H')) : wpAny (model X.prog X.w) X.A (call (.ref f) us []) (EP X pins σ Q) X.xe s := by
  have r2 := hb.rel r Paired.nil
  have bt := hb.to s us [] I.kIn (r.length.symm.trans l1) rfl
  refine wpAny_call (codeAny_mono (F.run X.A X.stack s H ⟨us, []⟩ us vs Q (fun cls d H' => W cls d σ H') hx.r hx.g I.env0 bt r2 h) ?_)
  intro r s' hq
  cases r with
  | error e => exact tks e s' (XE.of_call I (fun _ _ _ z => z) hq)
  | ok fl =>
    cases fl with
    | ret u => exact I.after hq
    | next => exact False.elim hq
    | brk => exact False.elim hq
    | cont => exact False.elim hq
def tMethN (C : Addr) (m : PySem.Str) (n : Nat) (sp : Sp) (W : WX) (ta : TE) (t : TA) : TE := fun σ H Q => ta σ H fun x H1 => ∃ a dx fs, x = .ref a ∧ H1 a = some (.ins C dx fs) ∧ fs.lookup m = none ∧
  t σ H1 fun vs H2 => vs.length + 1 = n ∧ sp (.ref a :: vs) H2 Q (fun cls d H' => W cls d σ H')
theorem pe_methN {pl : Sem Bool} {e : Expr} {es : List Expr} {ta : TE} {t : TA} (he : PE X o ta) (c : Cls X.K C) (cm : CalM X.prog X.w X.K X.mg X.base k C m n sp) (hx : RoomX k X) (tks : Takes X W) (ha : PA X (e :: es) t)
    (hst : starEach (e :: es) X.env = (false, eval e X.env) :: starEach es X.env := by rfl) (hpl : (backTo pos (starEach es X.env)).any (·.1) = false := by rfl)
    (ht : eval (.Call (.Attribute o m apos) (e :: es) [] pos) X.env = (do
      let ov ← eval o X.env
      standAt apos.atName
      let (f, first) ← holding [ov] (getMethod ov m pl)
      callWith pos f first (backTo pos (starEach (e :: es) X.env)) (backToKw pos (keywordEach [] X.env))) := by rfl) :
    PE X (.Call (.Attribute o m apos) (e :: es) [] pos) (tMethN C m n sp W ta t) := by
  obtain ⟨f, fd, ps, hm, F, hb⟩ := cm.ex
  refine ⟨fun pins s σ H Q I h => ?_⟩
  refine PySem.W.methodCall_KW (pl := pl) (thn (he.run pins s σ H _ I h) fun u s1 ⟨x, H1, I1, rx, a, dx, fs, ex, ea, l, q⟩ => ?_) ht
  subst ex
  obtain rfl : u = Value.ref a := rx
  refine getmeth_ok I1 ea c hm l ?_
  refine PySem.W.callWith_K (first := [.ref a]) (h₀ := X.base) I.ok.mod.kin hm.kp (thn (ha.run pos pins s1 σ H1 _ I1 q) fun us s2 ⟨vs, H2, I2, r, l2, q2⟩ => ⟨I2.kIn, ?_⟩) hst hpl
  exact run_N (us := .ref a :: us) (vs := .ref a :: vs) F hx hb tks I2 (.cons rfl r) l2 q2
theorem pe_methN0 {pl : Sem Bool} {ta : TE} (he : PE X o ta) (c : Cls X.K C) (cm : CalM X.prog X.w X.K X.mg X.base k C m n sp) (hx : RoomX k X) (tks : Takes X W)
    (ht : eval (.Call (.Attribute o m apos) [] [] pos) X.env = (do
      let ov ← eval o X.env
      standAt apos.atName
      let (f, first) ← holding [ov] (getMethod ov m pl)
      callWith pos f first (backTo pos (starEach [] X.env)) (backToKw pos (keywordEach [] X.env))) := by rfl) :
    PE X (.Call (.Attribute o m apos) [] [] pos) (tMethN C m n sp W ta tNil) := by
  obtain ⟨f, fd, ps, hm, F, hb⟩ := cm.ex
  refine ⟨fun pins s σ H Q I h => ?_⟩
  refine PySem.W.methodCall_KW (pl := pl) (thn (he.run pins s σ H _ I h) fun u s1 ⟨x, H1, I1, rx, a, dx, fs, ex, ea, l, l2, q⟩ => ?_) ht
  subst ex
  obtain rfl : u = Value.ref a := rx
  refine getmeth_ok I1 ea c hm l ?_
  exact PySem.W.callWith_K0 (first := [.ref a]) I1.kIn hm.kp (run_N (us := [.ref a]) (vs := [.ref a]) F hx hb tks I1 (.cons rfl .nil) l2 q)
end
def isO (c m : PySem.Str) : D → Bool
  | .obj c' ns _ => decide (c' = c) && decide (m ∉ ns)
  | _ => false
def okC (o : OC) (e : Env) : OE := match o with
  | .ret r _ => .ok r e
  | .exc x _ => .exc x e
  | .bad => .bad
def oMeth (c m : PySem.Str) (f : List D → OC) (n : Nat) (oo : Env → OE) (oa : Env → OA) : Env → OE := fun env => (oo env).bind fun r e0 => if isO c m r.fz = true then (oa e0).bindE fun ds e1 => if ds.length + 1 = n then okC (f (r.fz :: ds)) e1 else .bad else .bad
theorem isO_obj {c m : PySem.Str} {d : D} (h : isO c m d = true) : ∃ ns ds, d = .obj c ns ds ∧ m ∉ ns := by
  cases d with
  | obj c' ns ds =>
    obtain ⟨h1, h2⟩ := Bool.and_eq_true_iff.mp h
    rw [of_decide_eq_true h1]
    exact ⟨ns, ds, rfl, of_decide_eq_true h2⟩
  | _ => cases h
theorem PostE.imp {Z : Zd} {F : Hp} {σ : L2.St} {Q Q' : VK} {o : OE} (h : PostE Z F σ Q o) (i : ∀ v H, Q v H → Q' v H) : PostE Z F σ Q' o := by
  cases o with
  | ok r e => exact fun v H' F' g x rr => i v H' (h v H' F' g x rr)
  | exc x e => exact h
  | bad => exact h
theorem tE_imp {Z : Zd} {o : Env → OE} {σ : L2.St} {H : Hp} {Q Q' : VK} (h : tE Z o σ H Q) (i : ∀ v H, Q v H → Q' v H) : tE Z o σ H Q' := by
  obtain ⟨F, env, g, h⟩ := h
  exact ⟨F, env, g, h.imp i⟩
section
variable {X : Cx} {Z : Zd} {k n : Nat} {f : List D → OC} {oo : Env → OE} {oa : Env → OA} {C : Addr} {c m : PySem.Str} {pos apos : Pos} {o : Expr}
theorem okC_post {Z : Zd} {F H : Hp} {σ : L2.St} {Q : VK} {e : Env} {oc : OC} (g : Good Z F σ H e) (h : PostE Z F σ Q (okC oc e)) : PostC Z.G Z.C F H [] Q (fun cls d H' => Z.W cls d σ H') oc := by
  cases oc with
  | bad => exact h
  | exc x out => exact fun cls d H' F' b rx => h cls d H' F' (g.callee b (fun a h => by cases h) (fun a h => by cases h)) b.ff rx
  | ret r out => exact fun v H' F' b rr => h v H' F' (g.callee b (fun a h => by cases h) (fun a h => by cases h)) b.ff (retOk_rep g (fun j s e1 e2 => ⟨s, e1, e2⟩) rr)
theorem meth_to (hg : Z.G.mg c = some (.ref C)) {σ : L2.St} {H : Hp} {Q : VK} (h : tE Z (oMeth c m f n oo oa) σ H Q) : tMethN C m n (spF Z.G Z.C n none f) Z.W (tE Z oo) (tA Z oa) σ H Q := by
  obtain ⟨F, env, g, h⟩ := h
  refine seqE g h fun r1 env1 v1 H1 F1 g1 x1 rp1 h1 => ?_
  split at h1
  case isFalse => exact h1.elim
  rename_i ho
  obtain ⟨ns, ds, ed, hm⟩ := isO_obj ho
  rw [ed] at rp1 h1
  cases rp1 with
  | @obj a C' dx c ns' vs ds' e1 e2 e3 e4 e5 =>
    have ec : C' = C := by
      rw [hg] at e3
      cases e3
      rfl
    subst ec
    refine ⟨a, dx, _, rfl, g1.fh _ _ e1, zip_none hm, ?_⟩
    refine seqAE g1 h1 fun es env2 ws H2 F2 g2 x2 r2 h2 => ?_
    split at h2
    case isFalse => exact h2.elim
    rename_i hl
    have l2 : ws.length + 1 = n := by rw [r2.length]; exact hl
    refine ⟨l2, F2, .obj c ns ds :: es, [], by rw [List.length_cons]; exact l2, argsOk_all g2.fh (.cons ((Rep.obj e1 e2 e3 e4 e5).mono x2) r2), okC_post g2 h2⟩
theorem n_meth {pl : Sem Bool} {e : Expr} {es : List Expr} (hc : Cls X.K C) (hg : Z.G.mg c = some (.ref C)) (cm : CalM X.prog X.w X.K X.mg X.base k C m n (spF Z.G Z.C n none f)) (hx : RoomX k X) (tk : Takes X Z.W) (ho : PE X o (tE Z oo)) (ha : PA X (e :: es) (tA Z oa))
    (hst : starEach (e :: es) X.env = (false, eval e X.env) :: starEach es X.env := by rfl) (hpl : (backTo pos (starEach es X.env)).any (·.1) = false := by rfl)
    (ht : eval (.Call (.Attribute o m apos) (e :: es) [] pos) X.env = (do
      let ov ← eval o X.env
      standAt apos.atName
      let (f, first) ← holding [ov] (getMethod ov m pl)
      callWith pos f first (backTo pos (starEach (e :: es) X.env)) (backToKw pos (keywordEach [] X.env))) := by rfl) :
    PE X (.Call (.Attribute o m apos) (e :: es) [] pos) (tE Z (oMeth c m f n oo oa)) :=
  PE.imp (pe_methN ho hc cm hx tk ha hst hpl ht) fun σ H Q h => meth_to hg h
theorem n_meth0 {pl : Sem Bool} (hc : Cls X.K C) (hg : Z.G.mg c = some (.ref C)) (cm : CalM X.prog X.w X.K X.mg X.base k C m n (spF Z.G Z.C n none f)) (hx : RoomX k X) (tk : Takes X Z.W) (ho : PE X o (tE Z oo))
    (ht : eval (.Call (.Attribute o m apos) [] [] pos) X.env = (do
      let ov ← eval o X.env
      standAt apos.atName
      let (f, first) ← holding [ov] (getMethod ov m pl)
      callWith pos f first (backTo pos (starEach [] X.env)) (backToKw pos (keywordEach [] X.env))) := by rfl) :
    PE X (.Call (.Attribute o m apos) [] [] pos) (tE Z (oMeth c m f n oo oNil)) :=
  PE.imp (pe_methN0 ho hc cm hx tk ht) fun σ H Q h => by
    have h2 := meth_to hg h
    refine tE_imp h2 fun x H1 ⟨a, dx, fs, q1, q2, q3, q4⟩ => ?_
    obtain ⟨F, env, g, q⟩ := q4
    exact ⟨a, dx, fs, q1, q2, q3, q [] H1 F g (Ex.refl F) .nil⟩
end
end FE

namespace FE
open PySem PySem.Spec PyProof.Rows L2
/-! ### an object is made: __init__ -/
inductive OJ where
  | done (ns : List PySem.Str) (ds : List D) | exc (x : Xc) (env : Env) | bad
def flatS : SV → Bool
  | .no => true
  | .sh _ => true
  | _ => false
def iniO (f : PySem.Str) (ns : List PySem.Str) (ds : List D) (k : Env → List PySem.Str → List D → OJ) : OE → OJ
  | .ok r e => k e (ns ++ [f]) (ds ++ [r.fz])
  | _ => .bad
def jSet (f : PySem.Str) (oa : Env → OE) (k : Env → List PySem.Str → List D → OJ) : Env → List PySem.Str → List D → OJ := fun env ns ds =>
  if env.all flatS = true ∧ f ∉ ns ∧ ns.length < 100 then iniO f ns ds k (oa env) else .bad
def jEnd : Env → List PySem.Str → List D → OJ := fun _ ns ds => .done ns ds
noncomputable def jGo (v : V) (k : Env → List PySem.Str → List D → OJ) : Env → OJ
  | .sh (.dev 0 u) :: r => open Classical in if u = v ∧ r.all flatS = true then k (.sh (.dev 0 u) :: r) [] [] else .bad
  | _ => .bad
theorem e_jGo (v : V) (k : Env → List PySem.Str → List D → OJ) (r : Env) : jGo v k (.sh (.dev 0 v) :: r) = if r.all flatS = true then k (.sh (.dev 0 v) :: r) [] [] else .bad := by
  by_cases h : r.all flatS = true <;> simp [jGo, h]
def jSeqO (k : Env → OJ) : OS → OJ
  | .nx e => k e
  | .exc x e => .exc x e
  | _ => .bad
def jSeq (o : Env → OS) (k : Env → OJ) : Env → OJ := fun env => jSeqO k (o env)
/-- what is known while the attributes are stored -/
structure Ini (Z : Zd) (x C dx : Addr) (F : Hp) (σ : L2.St) (H : Hp) (env : Env) (ns : List PySem.Str) (ds : List D) : Prop where
  ff : Ex Z.F0 F
  fh : Ex F H
  keep : ∀ a o, Z.H0 a = some o → a ≠ x → H a = some o
  new : ∀ a o, F a = some o → Z.F0 a = none → Z.H0 a = none
  len : env.length = σ.length
  sh : ∀ (i : Nat) d, env[i]? = some (.sh d) → ∃ v, σ[i]? = some (some v) ∧ Rep Z.G F v d
  s0 : σ[0]? = some (some (.ref x))
  nx : F x = none
  hx : Z.H0 x ≠ none
  me : ∃ vs, H x = some (.ins C dx (ns.zip vs)) ∧ ns.length = vs.length ∧ RepL Z.G F vs ds
def PostJ (Z : Zd) (F : Hp) (x C dx : Addr) (Dn : Ends) : OJ → Prop
  | .done ns ds => ∀ σ' H' F' vs, Ex Z.F0 F' → Ex F' H' → (∀ a o, Z.H0 a = some o → a ≠ x → H' a = some o) → (∀ a o, F' a = some o → Z.F0 a = none → Z.H0 a = none) → H' x = some (.ins C dx (ns.zip vs)) → ns.length = vs.length → RepL Z.G F' vs ds → F' x = none → Dn.nx σ' H'
  | .exc x env => PostXS Z F x env
  | .bad => False
def tN (Z : Zd) (x C dx : Addr) (o : Env → List PySem.Str → List D → OJ) : TS := fun Dn σ H => ∃ F env ns ds, Ini Z x C dx F σ H env ns ds ∧ PostJ Z F x C dx Dn (o env ns ds)
def tJ (Z : Zd) (x C dx : Addr) (o : Env → OJ) : TS := fun Dn σ H => ∃ F env, Good Z F σ H env ∧ PostJ Z F x C dx Dn (o env)
/-- what stands at the start of an __init__ -/
structure Made (Z : Zd) (x C dx : Addr) : Prop where
  hx : Z.H0 x = some (.ins C dx [])
  fx : Z.F0 x = none
  ps : Z.ps = []
def selfD (x : Addr) : D := .dev 0 (.ref x)
section
variable {X : Cx} {Z : Zd} {x C dx : Addr} {st : Stmt} {rest : List Stmt}
theorem PostJ.up {F F1 : Hp} {Dn : Ends} {o : OJ} (e : Ex F F1) (h : PostJ Z F x C dx Dn o) : PostJ Z F1 x C dx Dn o := by
  cases o with
  | done ns ds => exact h
  | exc x env => exact PostXS.up e h
  | bad => exact h
theorem n_jend : PSs X [] (tN Z x C dx jEnd) := PSs.imp pss_nil fun Dn σ H ⟨F, env, ns, ds, i, h⟩ => by
  obtain ⟨vs, h1, h2, h3⟩ := i.me
  exact h σ H F vs i.ff i.fh i.keep i.new h1 h2 h3 i.nx
/-- the lists of nobody: a state set apart -/
theorem good_flat {G : Gd} {F : Hp} {σ : L2.St} {H : Hp} {env : Env} {W : WX} {CC : PySem.Str → Value → Prop} (fh : Ex F H) (fl : env.all flatS = true) (len : env.length = σ.length) (sh : ∀ (i : Nat) d, env[i]? = some (.sh d) → ∃ v, σ[i]? = some (some v) ∧ Rep G F v d) : Good ⟨G, F, H, [], W, CC⟩ F σ H env := by
  have nf : ∀ {i : Nat} {s : SV} {es : List D}, env[i]? = some s → Own s = some es → False := fun {i s es} e1 e2 => by
    have := List.all_eq_true.mp fl s (List.mem_of_getElem? e1)
    cases s with
    | no => cases e2
    | sh d => cases e2
    | ow es => exact Bool.false_ne_true this
    | io es => exact Bool.false_ne_true this
  refine { ff := Ex.refl F, fh := fh, keep := fun a o h _ => h, new := fun a o h n => ?_, len := len, sh := sh, ow := fun i s es e1 e2 => (nf e1 e2).elim, io := fun i es e => (nf e rfl).elim, nio := fun i es e => (nf e rfl).elim, pa := fun a ha => (by cases ha), dis := fun i j a s t _ e1 _ s1 _ => ?_ }
  · rw [show F a = none from n] at h
    cases h
  · cases q : Own s with
    | none => rw [q] at s1; cases s1
    | some es => exact (nf e1 q).elim
theorem putF_new {f : PySem.Str} {v : V} : ∀ {ns : List PySem.Str} {vs : List V}, f ∉ ns → ns.length = vs.length → putF f v (ns.zip vs) = (ns ++ [f]).zip (vs ++ [v])
  | [], [], _, _ => rfl
  | n :: ns, u :: vs, h, l => by
    have ne : ¬ n = f := fun q => h (q ▸ List.mem_cons_self)
    show putF f v ((n, u) :: ns.zip vs) = _
    unfold putF
    rw [if_neg ne, putF_new (fun q => h (List.mem_cons_of_mem _ q)) (by simpa using l)]
    rfl
  | [], _ :: _, _, l => by cases l
  | _ :: _, [], _, l => by cases l
theorem n_jset {f : PySem.Str} {nm : PySem.Str} {np tp pos : Pos} {value : Expr} {oa : Env → OE} {k : Env → List PySem.Str → List D → OJ} (hc : Cls X.K C) (hn : NoAttr X.K C f) (hv : ∀ F H, PE X value (tE ⟨Z.G, F, H, [], fun _ _ _ _ => False, Z.C⟩ oa)) (hr : PSs X rest (tN Z x C dx k))
    (hN : X.N[0]? = some nm := by rfl) (hvis : Vis X.env.scope nm := by first | exact Or.inl rfl | exact Or.inr (Or.inl rfl) | exact Or.inr (Or.inr rfl)) (hd : (nm == ("__debug__" : PySem.Str)) = false := by decide) (hcd : (nm == ("__classdict__" : PySem.Str)) = false := by decide)
    (hs : swapsWith value (some (.Attribute (.Name nm np) f tp)) pos.line X.env = pure false := by rfl) :
    PSs X (.Assign [.Attribute (.Name nm np) f tp] value pos :: rest) (tN Z x C dx (jSet f oa k)) := by
  have hst : PS X (.Assign [.Attribute (.Name nm np) f tp] value pos) (fun Dn σ H => ∃ F, sFld X.K (tVar 0) (tE ⟨Z.G, F, H, [], fun _ _ _ _ => False, Z.C⟩ oa) f Dn σ H) := ⟨fun pins s σ H D I ⟨F, h⟩ => (ps_fld (pe_var hN hvis hd hcd) (hv F H) hs).run pins s σ H D I h⟩
  refine PSs.imp (pss_cons hst hr) fun Dn σ H ⟨F, env, ns, ds, i, h⟩ => ⟨F, ?_⟩
  unfold jSet at h
  split at h
  case isFalse => exact h.elim
  rename_i hh
  have g0 : Good ⟨Z.G, F, H, [], fun _ _ _ _ => False, Z.C⟩ F σ H env := good_flat i.fh hh.1 i.len i.sh
  refine ⟨F, env, g0, ?_⟩
  cases e : oa env with
  | bad => rw [e] at h; exact h.elim
  | exc x e1 => rw [e] at h; exact h.elim
  | ok r e1 =>
    rw [e] at h
    intro v H1 F1 g1 x1 rr
    obtain ⟨F2, g2, x2, rp⟩ := g1.give rr
    obtain ⟨vs, m1, m2, m3⟩ := i.me
    have hx1 : H1 x = some (.ins C dx (ns.zip vs)) := g2.keep x _ m1 (by intro z; cases z)
    have x12 : Ex F F2 := x1.trans x2
    have f2x : F2 x = none := by
      cases q : F2 x with
      | none => rfl
      | some o =>
        have := g2.new x o q i.nx
        rw [show (Zd.mk Z.G F H [] (fun _ _ _ _ => False) Z.C).H0 x = H x from rfl, m1] at this
        cases this
    refine ⟨.ref x, i.s0, x, C, dx, ns.zip vs, rfl, hx1, hc, hn, by rw [List.length_zip]; omega, F2, e1, ns ++ [f], ds ++ [r.fz], ?_, PostJ.up x12 h⟩
    refine ⟨i.ff.trans x12, fun a o z => ?_, fun a o z n => ?_, fun a o z n => ?_, g2.len, g2.sh, i.s0, f2x, i.hx, vs ++ [v], ?_, by rw [List.length_append, List.length_append, m2]; rfl, (m3.mono x12).append (.single rp)⟩
    · have ne : a ≠ x := fun q => by rw [q, f2x] at z; cases z
      rw [upd_ne ne]
      exact g2.fh a o z
    · rw [upd_ne n]
      exact g2.keep a o (i.keep a o z n) (by intro z; cases z)
    · cases q : F a with
      | some u => exact i.new a u q n
      | none =>
        have z2 : H a = none := g2.new a o z q
        cases y : Z.H0 a with
        | none => rfl
        | some u =>
          by_cases ax : a = x
          · rw [ax] at z2
            rw [z2] at m1
            cases m1
          · rw [i.keep a u y ax] at z2
            cases z2
    · rw [upd_same, putF_new hh.2.1 m2]
end
end FE

namespace FE
open PySem PySem.Spec PyProof.Rows L2
section
variable {X : Cx} {Z : Zd} {x C dx : Addr} {st : Stmt} {rest : List Stmt}
theorem n_jgo {k : Env → List PySem.Str → List D → OJ} (m : Made Z x C dx) (h : PSs X rest (tN Z x C dx k)) : PSs X rest (tJ Z x C dx (jGo (.ref x) k)) := by
  refine PSs.imp h fun Dn σ H ⟨F, env, g, h⟩ => ?_
  cases env with
  | nil => exact h.elim
  | cons s r =>
    unfold jGo at h
    split at h
    case h_2 => exact h.elim
    rename_i u r' e
    split at h
    case isFalse => exact h.elim
    rename_i hf
    obtain ⟨rfl, hf⟩ := hf
    obtain ⟨e1, e2⟩ := List.cons.inj e
    subst e1 e2
    have fx : F x = none := by
      cases q : F x with
      | none => rfl
      | some o =>
        have := g.new x o q m.fx
        rw [m.hx] at this
        cases this
    have s0 : σ[0]? = some (some (.ref x)) := by
      obtain ⟨v, h1, h2⟩ := g.sh 0 _ rfl
      cases h2
      exact h1
    have np : ∀ a : Addr, a ∉ Z.ps := fun a q => by
      rw [m.ps] at q
      cases q
    have hx0 : Z.H0 x ≠ none := fun z => by
      rw [m.hx] at z
      cases z
    exact ⟨F, _, [], [], ⟨g.ff, g.fh, fun a o z _ => g.keep a o z (np a), g.new, g.len, g.sh, s0, fx, hx0, ⟨[], g.keep x _ m.hx (np x), rfl, .nil⟩⟩, h⟩
theorem n_jseq {o : Env → OS} {k : Env → OJ} (h1 : PS X st (tS Z o)) (h2 : PSs X rest (tJ Z x C dx k)) : PSs X (st :: rest) (tJ Z x C dx (jSeq o k)) := by
  refine PSs.imp (pss_cons h1 h2) fun Dn σ H ⟨F, env, g, h⟩ => ⟨F, env, g, ?_⟩
  unfold jSeq at h
  cases e : o env with
  | nx env1 =>
    rw [e] at h
    exact fun σ' H' F' g' x' => ⟨F', env1, g', PostJ.up x' h⟩
  | ret r env1 => rw [e] at h; exact h.elim
  | brk env1 => rw [e] at h; exact h.elim
  | cnt env1 => rw [e] at h; exact h.elim
  | exc y env1 => rw [e] at h; exact h
  | bad => rw [e] at h; exact h.elim
end
/-- an __init__, by the data of its other parameters -/
def runI (n : Nat) (body : V → Env → OJ) (v : V) (ds : List D) : OJ := body v (.sh (.dev 0 v) :: (ds.map SV.sh ++ List.replicate (n - 1 - ds.length) SV.no))
def PostK (G : Gd) (CC : PySem.Str → Value → Prop) (F H : Hp) (x C dx : Addr) (Q : VK) (E : XK) : OJ → Prop
  | .done ns ds => ∀ H' F' vs, Ex F F' → Ex F' H' → (∀ a o, H a = some o → a ≠ x → H' a = some o) → (∀ a o, F' a = some o → F a = none → H a = none) → H' x = some (.ins C dx (ns.zip vs)) → ns.length = vs.length → RepL G F' vs ds → F' x = none → Q .non H'
  | .exc y _ => ∀ cls d H' F', Bk G F H [] [] F' H' → ExcOk G CC F' cls d y → E cls d H'
  | .bad => False
def spI (G : Gd) (CC : PySem.Str → Value → Prop) (C : Addr) (np : Nat) (f : V → List D → OJ) : Sp := fun vs H Q E => ∃ (F : Hp) (x dx : Addr) (ws : List V) (ds : List D), vs = .ref x :: ws ∧ vs.length = np ∧ H x = some (.ins C dx []) ∧ F x = none ∧ Ex F H ∧ RepL G F ws ds ∧ PostK G CC F H x C dx Q E (f (.ref x) ds)
section
variable {P : Program} {w : World} {K : PySem.W.Frag} {mg : PySem.Str → Option Value} {base : Heap} {k : Nat} {f : Addr} {fd : FuncData} {N ps : List PySem.Str} {CC : PySem.Str → Value → Prop}
theorem flat_args {ds : List D} {n : Nat} {d0 : D} : (SV.sh d0 :: (ds.map SV.sh ++ List.replicate n SV.no)).all flatS = true := by
  rw [List.all_cons, List.all_append]
  have h1 : (ds.map SV.sh).all flatS = true := by
    rw [List.all_map]
    exact List.all_eq_true.mpr fun d _ => rfl
  have h2 : (List.replicate n SV.no).all flatS = true := List.all_eq_true.mpr fun s hs => by
    rw [(List.mem_replicate.mp hs).2]
    rfl
  rw [h1, h2]
  rfl
theorem fnI {nm qual : PySem.Str} {params : Arguments} {body : List Stmt} {scope : Scope} {dvs : List V} {kws : List (PySem.Str × V)} (D' : FunD K nm qual params body scope dvs kws f fd) (S : FnScope N ps scope) (C : Addr) {o : V → Env → OJ} (hps : 1 ≤ ps.length)
    (h : ∀ (cdv : Value) (A : Around) (outer : List PySem.Env) (s : Shared) (H : Hp) (E : XK) (F0 : Hp) (x dx : Addr), RoomX k (cxOf (L2.CX P w) P w K mg base N qual scope f cdv A outer s H E) →
      InDef (cxOf (L2.CX P w) P w K mg base N qual scope f cdv A outer s H E) ⟨⟨K, mg⟩, F0, H, [], fun cls d _ H' => E cls d H', CC⟩ → Made ⟨⟨K, mg⟩, F0, H, [], fun cls d _ H' => E cls d H', CC⟩ x C dx →
      PSs (cxOf (L2.CX P w) P w K mg base N qual scope f cdv A outer s H E) body (fun Dn σ H1 => ∃ env, Good ⟨⟨K, mg⟩, F0, H, [], fun cls d _ H' => E cls d H', CC⟩ F0 σ H1 env ∧ (∃ ds, env = .sh (.dev 0 (.ref x)) :: ds) ∧ PostJ ⟨⟨K, mg⟩, F0, H, [], fun cls d _ H' => E cls d H', CC⟩ F0 x C dx Dn (o (.ref x) env))) :
    FnG P w K mg base (k + 1) f fd ps (spI ⟨K, mg⟩ CC C ps.length (runI N.length o)) := by
  refine fnG_of D' S (fun vs H Q E h => ?_) fun cdv A outer s H vs Q E hr hg hsp => ?_
  · obtain ⟨_, _, _, _, _, _, h1, _⟩ := h
    exact h1
  · obtain ⟨F0, x, dx, ws, ds, rfl, h2, h3, h4, h5, h6, h7⟩ := hsp
    have hl : ds.length + 1 = ps.length := by
      rw [← h6.length]
      exact h2
    refine ⟨_, h cdv A outer s H E F0 x dx ⟨hr, hg⟩ ⟨takes_of rfl rfl rfl rfl, passes_of rfl⟩ ⟨h3, h4, rfl⟩, .sh (.dev 0 (.ref x)) :: (ds.map SV.sh ++ List.replicate (N.length - 1 - ds.length) SV.no), ?_, ⟨_, rfl⟩, ?_⟩
    · have a : ArgsOk ⟨K, mg⟩ F0 H none [] (.ref x :: ws) (.dev 0 (.ref x) :: ds) := argsOk_all h5 (.cons (.dev 0 (.ref x)) h6)
      have g := good_start (N := N) (W := fun cls d _ H' => E cls d H') (C := CC) a
      have e : argEnv none (.dev 0 (.ref x) :: ds) ++ List.replicate (N.length - (D.dev 0 (.ref x) :: ds).length) SV.no = .sh (.dev 0 (.ref x)) :: (ds.map SV.sh ++ List.replicate (N.length - 1 - ds.length) SV.no) := by
        show SV.sh _ :: (ds.map SV.sh ++ _) = _
        rw [List.length_cons, show N.length - (ds.length + 1) = N.length - 1 - ds.length by omega]
      rw [e] at g
      exact g
    · unfold runI at h7
      cases e : o (.ref x) (.sh (.dev 0 (.ref x)) :: (ds.map SV.sh ++ List.replicate (N.length - 1 - ds.length) SV.no)) with
      | bad => rw [e] at h7; exact h7
      | done ns es =>
        rw [e] at h7
        exact fun σ' H' F' vs q1 q2 q3 q4 q5 q6 q7 q8 => h7 H' F' vs q1 q2 q3 q4 q5 q6 q7 q8
      | exc y env' =>
        rw [e] at h7
        exact fun cls d σ' H' F' g _ rx => h7 cls d H' F' ⟨g.ff, g.fh, fun b o z _ => g.keep b o z (by intro q; cases q), g.new, fun a ha => by cases ha⟩ rx
/-- the body's derivation begins with tJ -/
theorem j_start {X : Cx} {Z : Zd} {x C dx : Addr} {body : List Stmt} {o : Env → OJ} (h : PSs X body (tJ Z x C dx o)) : PSs X body (fun Dn σ H1 => ∃ env, Good Z Z.F0 σ H1 env ∧ (∃ ds, env = .sh (.dev 0 (.ref x)) :: ds) ∧ PostJ Z Z.F0 x C dx Dn (o env)) :=
  PSs.imp h fun Dn σ H ⟨env, g, _, q⟩ => ⟨Z.F0, env, g, q⟩
end
end FE

namespace FE
open PySem PySem.Spec PyProof.Rows L2
/-! ### C(..) -/
theorem make_guards {A : Around} {C : Addr} {us : List Value} {kw : List (PySem.Str × Value)} : (A.under (.builtin "type.__call__" ⟨.ref C :: us, kw⟩)).guards = A.guards := by
  first | rfl | simp [Around.under, Code.isGuard, guardIds]
structure CalC (P : Program) (w : World) (K : PySem.W.Frag) (mg : PySem.Str → Option Value) (base : Heap) (k : Nat) (x : PySem.Str) (C : Addr) (n : Nat) (ks : List PySem.Str) (gV : List V → List V → List V) (sp : Sp) : Prop where
  ex : ∃ (f : Addr) (fd : FuncData) (ps : List PySem.Str) (g : List Value → List Value → List Value) (gU : List V → List V → List V), mg x = some (.ref C) ∧ Mk K C f ∧ FnG P w K mg base k f fd ps sp ∧ KBn K fd ps (n + 1) ks g gU ∧ ∀ v vs zs, gU (v :: vs) zs = v :: gV vs zs
theorem CalC.mono {P : Program} {w : World} {K : PySem.W.Frag} {mg : PySem.Str → Option Value} {base : Heap} {j k : Nat} {x : PySem.Str} {C : Addr} {n : Nat} {ks : List PySem.Str} {gV : List V → List V → List V} {sp : Sp} (h : CalC P w K mg base j x C n ks gV sp) (l : j ≤ k) : CalC P w K mg base k x C n ks gV sp := by
  obtain ⟨f, fd, ps, g, gU, h1, h2, h3, h4, h5⟩ := h.ex
  exact ⟨f, fd, ps, g, gU, h1, h2, h3.mono l, h4, h5⟩
def tMakeN (C : Addr) (n m : Nat) (sp : Sp) (W : WX) (gV : List V → List V → List V) (t tk : TA) : TE := fun σ H Q => t σ H fun vs H1 => tk σ H1 fun zs H2 => vs.length = n ∧ zs.length = m ∧ ∀ x dx, H2 x = none → H2 dx = none → dx ≠ x →
  sp (.ref x :: gV vs zs) (upd (upd H2 dx (.own x)) x (.ins C dx [])) (fun v H3 => v = .non ∧ Q (.ref x) H3) (fun cls d H' => W cls d σ H')
section
variable {X : Cx} {k n : Nat} {C f : Addr} {fd : FuncData} {ps ks : List PySem.Str} {sp : Sp} {W : WX} {x : PySem.Str} {p pos : Pos} {e : Expr} {es : List Expr} {kws : List Keyword} {t tk : TA} {g : List Value → List Value → List Value} {gU gV : List V → List V → List V}
theorem run_makeG {pins : List (Addr × Obj)} {σ : L2.St} {H : Hp} {s : Shared} {Q : VK} {us ws : List Value} {vs zs : List V} (M : Mk X.K C f) (F : FnG X.prog X.w X.K X.mg X.base k f fd ps sp) (hx : RoomX (k + 1) X) (hb : KBn X.K fd ps (n + 1) ks g gU) (tks : Takes X W)
    (I : Inv X pins σ H s) (r : Vals vs us) (rz : Vals zs ws) (l1 : vs.length = n) (l2 : zs.length = ks.length)
    (h : ∀ x dx, H x = none → H dx = none → dx ≠ x → sp (gU (.ref x :: vs) zs) (upd (upd H dx (.own x)) x (.ins C dx [])) (fun v H2 => v = .non ∧ Q (.ref x) H2) (fun cls d H' => W cls d σ H')) :
    wpAny (model X.prog X.w) X.A (call (.ref C) us (ks.zip ws)) (EP X pins σ Q) X.xe s := by
  have hq := h (s.heap.objs.size + 1) s.heap.objs.size (I.hok.fresh (Nat.le_succ _)) (I.hok.fresh (Nat.le_refl _)) (Nat.ne_of_lt (Nat.lt_succ_self _))
  have I2 := Inv.made (C := C) I
  have r1 : Vals (V.ref (s.heap.objs.size + 1) :: vs) (Value.ref (s.heap.objs.size + 1) :: us) := .cons rfl r
  have r2 := hb.rel r1 rz
  have n1 : (Value.ref (s.heap.objs.size + 1) :: us).length = n + 1 := by
    rw [List.length_cons, ← r.length, l1]
  refine wpAny_call (make_map (f := f) I.kIn M.makes M.init (beq_iff_eq.mp M.fn) (codeAny_mono (F.run _ X.stack _ _ ⟨Value.ref (s.heap.objs.size + 1) :: us, ks.zip ws⟩ (g (Value.ref (s.heap.objs.size + 1) :: us) ws) _ _ (fun cls d H' => W cls d σ H') (hx.r.make C us (ks.zip ws)) (make_guards.trans hx.g)
    (I2.env0.make C us (ks.zip ws)) (hb.to _ (Value.ref (s.heap.objs.size + 1) :: us) ws I2.kIn n1 (rz.length.symm.trans l2)) r2 hq) fun r s' hq' => ?_))
  cases r with
  | error e => exact tks e s' (XE.of_call I2 (fun _ _ _ z => z) hq')
  | ok fl =>
    cases fl with
    | ret u =>
      obtain ⟨v, H', I3, rv, ev, q3⟩ := I2.after hq'
      subst ev
      exact ⟨rv, ⟨V.ref (s.heap.objs.size + 1), H', I3, rfl, q3⟩⟩
    | next => exact False.elim hq'
    | brk => exact False.elim hq'
    | cont => exact False.elim hq'
theorem pe_makeN (c : CalC X.prog X.w X.K X.mg X.base k x C n ks gV sp) (hx : RoomX (k + 1) X) (hgl : Gl X x) (tks : Takes X W) (ha : PA X (e :: es) t) (hkw : PK X kws tk)
    (hall : (backToKw pos (keywordEach kws X.env)).all (·.1.isSome) = true := by rfl) (hks : (backToKw pos (keywordEach kws X.env)).filterMap (·.1) = ks := by rfl) (hdb : (x == ("__debug__" : PySem.Str)) = false := by decide)
    (he : starEach (e :: es) X.env = (false, eval e X.env) :: starEach es X.env := by rfl) (hpl : ((backTo pos (starEach (e :: es) X.env)).any (·.1) || (backToKw pos (keywordEach kws X.env)).any (·.1.isNone)) = false := by rfl) :
    PE X (.Call (.Name x p) (e :: es) kws pos) (tMakeN C n ks.length sp W gV t tk) := by
  obtain ⟨f, fd, ps, g, gU, hm, M, F, hb, hu⟩ := c.ex
  refine ⟨fun pins s σ H Q I h => ?_⟩
  refine wpAny_Call_Name_kw (ld_glob I hgl hm ?_ hdb)
  refine PySem.W.callWith_KW (h₀ := X.base) I.ok.mod.kin M.kp hall (thn (ha.run pos pins s σ H _ I h) fun us s1 ⟨vs, H1, I1, r, q⟩ => ?_) hpl he
  refine thn (hkw.run pos pins s1 σ H1 _ I1 q) fun ws s2 ⟨zs, H2, I2, rz, l1, l2, q2⟩ => ⟨I2.kIn, ?_⟩
  rw [hks]
  exact run_makeG M F hx hb tks I2 r rz l1 l2 fun y dy h1 h2 h3 => by
    rw [hu]
    exact q2 y dy h1 h2 h3
theorem pe_makeN0 (c : CalC X.prog X.w X.K X.mg X.base k x C 0 ks gV sp) (hx : RoomX (k + 1) X) (hgl : Gl X x) (tks : Takes X W) (hkw : PK X kws tk)
    (hall : (backToKw pos (keywordEach kws X.env)).all (·.1.isSome) = true := by rfl) (hks : (backToKw pos (keywordEach kws X.env)).filterMap (·.1) = ks := by rfl) (hdb : (x == ("__debug__" : PySem.Str)) = false := by decide)
    (hpl : ((backTo pos (starEach [] X.env)).any (·.1) || (backToKw pos (keywordEach kws X.env)).any (·.1.isNone)) = false := by rfl) :
    PE X (.Call (.Name x p) [] kws pos) (tMakeN C 0 ks.length sp W gV tNil tk) := by
  obtain ⟨f, fd, ps, g, gU, hm, M, F, hb, hu⟩ := c.ex
  refine ⟨fun pins s σ H Q I h => ?_⟩
  refine wpAny_Call_Name_kw (ld_glob I hgl hm ?_ hdb)
  refine PySem.W.callWith_KW0 (h₀ := X.base) I.ok.mod.kin M.kp hall ?_ hpl
  refine thn (hkw.run pos pins s σ H _ I h) fun ws s2 ⟨zs, H2, I2, rz, l1, l2, q2⟩ => ⟨I2.kIn, ?_⟩
  rw [hks]
  exact run_makeG (us := []) (vs := []) M F hx hb tks I2 .nil rz rfl l2 fun y dy h1 h2 h3 => by
    rw [hu]
    exact q2 y dy h1 h2 h3
end
open Classical in
/-- an __init__ whose end does not hang on the new object's place -/
noncomputable def mkO (f : V → List D → OJ) (ds : List D) : OJ := if h : ∃ q, ∀ v, f v ds = q then h.choose else .bad
theorem mkO_eq {f : V → List D → OJ} {ds : List D} {q : OJ} (h : ∀ v, f v ds = q) : mkO f ds = q := by
  have h' : ∃ q, ∀ v, f v ds = q := ⟨q, h⟩
  unfold mkO
  rw [dif_pos h']
  exact (h'.choose_spec .non).symm.trans (h .non)
theorem mkO_all {f : V → List D → OJ} {ds : List D} (h : mkO f ds ≠ .bad) : ∀ v, f v ds = mkO f ds := by
  intro v
  by_cases h' : ∃ q, ∀ v, f v ds = q
  · obtain ⟨q, hq⟩ := h'
    rw [mkO_eq hq]
    exact hq v
  · exfalso
    apply h
    unfold mkO
    rw [dif_neg h']
def okJ (c : PySem.Str) (e : Env) : OJ → OE
  | .done ns ds => .ok (.sh (.obj c ns ds)) e
  | .exc x _ => .exc x e
  | .bad => .bad
noncomputable def mkK2 (c : PySem.Str) (f : V → List D → OJ) (n m : Nat) (gD : List D → List D → List D) (ds es : List D) (e2 : Env) : OE := if ds.length = n ∧ es.length = m then okJ c e2 (mkO f (gD ds es)) else .bad
noncomputable def mkK1 (c : PySem.Str) (f : V → List D → OJ) (n m : Nat) (gD : List D → List D → List D) (ok : Env → OA) (ds : List D) (e1 : Env) : OE := (ok e1).bindE (mkK2 c f n m gD ds)
noncomputable def oMake (c : PySem.Str) (f : V → List D → OJ) (n m : Nat) (gD : List D → List D → List D) (oa ok : Env → OA) : Env → OE := fun env => (oa env).bindE (mkK1 c f n m gD ok)
section
variable {X : Cx} {Z : Zd} {k np n : Nat} {ks : List PySem.Str} {gV : List V → List V → List V} {gD : List D → List D → List D} {f : V → List D → OJ} {oa ok : Env → OA} {C : Addr} {c x : PySem.Str} {p pos : Pos} {e : Expr} {es : List Expr} {kws : List Keyword}
theorem make_to (hg : Z.G.mg c = some (.ref C)) (gr : GRel np n ks.length gV gD) {σ : L2.St} {H : Hp} {Q : VK} (h : tE Z (oMake c f n ks.length gD oa ok) σ H Q) : tMakeN C n ks.length (spI Z.G Z.C C (np + 1) f) Z.W gV (tA Z oa) (tA Z ok) σ H Q := by
  obtain ⟨F, env, g, h⟩ := h
  refine seqAE g h fun ds env1 vs H1 F1 g1 x1 r1 h1 => ?_
  refine seqAE g1 h1 fun es env2 zs H2 F2 g2 x2 r2 h2 => ?_
  unfold mkK2 at h2
  split at h2
  case isFalse => exact h2.elim
  rename_i hl
  have l1 : vs.length = n := r1.length.trans hl.1
  have l2 : zs.length = ks.length := r2.length.trans hl.2
  obtain ⟨k1, k2⟩ := gr Z.G F2 vs zs ds es l1 l2 (r1.mono x2) r2
  refine ⟨l1, l2, fun y dy hy hd ne => ⟨F2, y, dy, _, gD ds es, rfl, by rw [List.length_cons, k1], upd_same, g2.fresh hy, ?_, k2, ?_⟩⟩
  · exact (g2.fh.trans (Ex.new hd)).trans (Ex.new (by rw [upd_ne (Ne.symm ne)]; exact hy))
  · have noty : ∀ {b : Addr} {o : HO}, H2 b = some o → b ≠ y ∧ b ≠ dy := fun {b o} z => ⟨ne_of_none z hy, ne_of_none z hd⟩
    have atH : ∀ {b : Addr}, b ≠ y → b ≠ dy → upd (upd H2 dy (.own y)) y (.ins C dy []) b = H2 b := fun {b} q1 q2 => by rw [upd_ne q1, upd_ne q2]
    by_cases hb : mkO f (gD ds es) = .bad
    · rw [hb] at h2
      exact h2.elim
    rw [mkO_all hb (.ref y)]
    cases q : mkO f (gD ds es) with
    | bad => rw [q] at h2; exact h2
    | exc z ez =>
      rw [q] at h2
      intro cls d H' F' b rx
      refine h2 cls d H' F' (g2.callee (ps := []) (out := []) ⟨b.ff, b.fh, fun a o z _ => ?_, fun a o z n => ?_, fun a ha => by cases ha⟩ (fun a h => by cases h) (fun a h => by cases h)) b.ff rx
      · exact b.keep a o (by rw [atH (noty z).1 (noty z).2]; exact z) (by intro q; cases q)
      · have := b.new a o z n
        by_cases ay : a = y
        · rw [ay]; exact hy
        by_cases ad : a = dy
        · rw [ad]; exact hd
        rw [atH ay ad] at this
        exact this
    | done ns es' =>
      rw [q] at h2
      intro H' F' ws q1 q2 q3 q4 q5 q6 q7 q8
      refine ⟨rfl, ?_⟩
      have hdy : H' dy = some (.own y) := q3 dy _ (by rw [upd_ne ne, upd_same]) ne
      have fdy : ∀ o, F' dy = some o → o = .own y := fun o z => by
        have := q2 dy o z
        rw [hdy] at this
        cases this
        rfl
      have F3 : Ex F' (upd (upd F' dy (.own y)) y (.ins C dy (ns.zip ws))) := fun a o z => by
        have ay : a ≠ y := fun q => by rw [q, q8] at z; cases z
        rw [upd_ne ay]
        by_cases ad : a = dy
        · rw [ad] at z ⊢
          rw [upd_same, fdy o z]
        · rw [upd_ne ad]
          exact z
      have g3 : Good Z (upd (upd F' dy (.own y)) y (.ins C dy (ns.zip ws))) σ H' env2 := by
        refine g2.callee (ps := []) (out := []) ⟨q1.trans F3, fun a o z => ?_, fun a o z _ => ?_, fun a o z n => ?_, fun a ha => by cases ha⟩ (fun a h => by cases h) (fun a h => by cases h)
        · by_cases ay : a = y
          · rw [ay] at z ⊢
            rw [upd_same] at z
            cases z
            exact q5
          · rw [upd_ne ay] at z
            by_cases ad : a = dy
            · rw [ad] at z ⊢
              rw [upd_same] at z
              cases z
              exact hdy
            · rw [upd_ne ad] at z
              exact q2 a o z
        · exact q3 a o (by rw [atH (noty z).1 (noty z).2]; exact z) (noty z).1
        · by_cases ay : a = y
          · rw [ay]; exact hy
          by_cases ad : a = dy
          · rw [ad]; exact hd
          rw [upd_ne ay, upd_ne ad] at z
          have := q4 a o z n
          rw [atH ay ad] at this
          exact this
      exact h2 (.ref y) H' _ g3 (q1.trans F3) (.obj upd_same (by rw [upd_ne ne, upd_same]) hg q6 (q7.mono F3))
theorem n_make (hg : Z.G.mg c = some (.ref C)) (cc : CalC X.prog X.w X.K X.mg X.base k x C n ks gV (spI Z.G Z.C C (np + 1) f)) (hx : RoomX (k + 1) X) (tks : Takes X Z.W) (gr : GRel np n ks.length gV gD) (ha : PA X (e :: es) (tA Z oa)) (hkw : PK X kws (tA Z ok)) (hgl : Gl X x := by rfl)
    (hall : (backToKw pos (keywordEach kws X.env)).all (·.1.isSome) = true := by rfl) (hks : (backToKw pos (keywordEach kws X.env)).filterMap (·.1) = ks := by rfl) (hdb : (x == ("__debug__" : PySem.Str)) = false := by decide)
    (he : starEach (e :: es) X.env = (false, eval e X.env) :: starEach es X.env := by rfl) (hpl : ((backTo pos (starEach (e :: es) X.env)).any (·.1) || (backToKw pos (keywordEach kws X.env)).any (·.1.isNone)) = false := by rfl) :
    PE X (.Call (.Name x p) (e :: es) kws pos) (tE Z (oMake c f n ks.length gD oa ok)) :=
  PE.imp (pe_makeN cc hx hgl tks ha hkw hall hks hdb he hpl) fun σ H Q h => make_to hg gr h
end
end FE

namespace FE
open PySem PySem.Spec PyProof.Rows L2
/-! ### x in a list of one's own -/
def SDr (K : PySem.W.Frag) (r : R2) (f : D → D → Option R) : Prop := ∀ (G : Gd) (H : Hp) (x y : V) (d : D) (ds : List D) (z : R) (Q : VK), G.K = K → Rep G H x d → Rep G H y (.lst ds) → f d (.lst ds) = some z → (∀ b, z = .sh (.bl b) → Q (.bl b) H) → r x y H Q
theorem good_nil {G : Gd} {H : Hp} : Good ⟨G, H, H, [], fun _ _ _ _ => False, fun _ _ => False⟩ H [] H [] := good_flat (Ex.refl H) rfl rfl fun i d e => by simp at e
theorem sdr_in {K : PySem.W.Frag} : SDr K (rInU K) inF := by
  intro G H x y d ds z Q hK rx ry h q
  subst hK
  obtain ⟨b, hb, rfl⟩ : ∃ b, inD d (.lst ds) = some b ∧ z = .sh (.bl b) := by
    unfold inF bR at h
    cases q : inD d (.lst ds) with
    | none => rw [q] at h; cases h
    | some b => rw [q] at h; exact ⟨b, rfl, (Option.some.inj h).symm⟩
  have fin : Q (.bl b) H := q b rfl
  rcases in_core (G := G) rfl good_nil rx ry hb with ⟨i, j, rfl, rfl, e⟩ | ⟨p, xs, rfl, h1, h2, h3, e⟩ | ⟨d', ds, h1, h2, h3, h4, e⟩
  · exact .inl ⟨i, j, rfl, rfl, by rw [← e]; exact fin⟩
  · exact .inr (.inl ⟨p, xs, rfl, h1, h2, h3, by rw [if_neg Bool.false_ne_true, ← e]; exact fin⟩)
  · exact .inr (.inr ⟨d', ds, h1, h2, h3, h4, by rw [← e]; exact fin⟩)
theorem sdr_nin {K : PySem.W.Frag} : SDr K (rNinU K) ninF := by
  intro G H x y d ds z Q hK rx ry h q
  subst hK
  obtain ⟨b, hb, rfl⟩ : ∃ b, inD d (.lst ds) = some b ∧ z = .sh (.bl (!b)) := by
    unfold ninF bR at h
    cases q : inD d (.lst ds) with
    | none => rw [q] at h; cases h
    | some b => rw [q] at h; exact ⟨b, rfl, (Option.some.inj h).symm⟩
  have fin : Q (.bl (!b)) H := q (!b) rfl
  rcases in_core (G := G) rfl good_nil rx ry hb with ⟨i, j, rfl, rfl, e⟩ | ⟨p, xs, rfl, h1, h2, h3, e⟩ | ⟨d', ds, h1, h2, h3, h4, e⟩
  · exact .inl ⟨i, j, rfl, rfl, by rw [← e]; exact fin⟩
  · exact .inr (.inl ⟨p, xs, rfl, h1, h2, h3, by rw [if_pos rfl, ← e]; exact fin⟩)
  · exact .inr (.inr ⟨d', ds, h1, h2, h3, h4, by rw [← e]; exact fin⟩)
def crO (f : D → D → Option R) (r : R) (e : FE.Env) : Option (List D) → OE
  | some ds => cvZ e (f r.fz (.lst ds))
  | none => .bad
def crB (f : D → D → Option R) (i : Nat) (r : R) (e : FE.Env) : OE := crO f r e (ownAt e i)
def oCmpR (f : D → D → Option R) (oa : FE.Env → OE) (i : Nat) : FE.Env → OE := fun env => (oa env).bind (crB f i)
theorem cmpR_to {X : Cx} {Z : Zd} {r : R2} {f : D → D → Option R} {i : Nat} {oa : FE.Env → OE} {σ : L2.St} {H : Hp} {Q : VK} (hs : SDr X.K r f) (hK : Z.G.K = X.K) (h : tE Z (oCmpR f oa i) σ H Q) : tE Z oa σ H fun x H1 => ∃ v, σ[i]? = some (some v) ∧ r x v H1 Q := by
  obtain ⟨F, env, g, h⟩ := h
  refine seqE g h fun r1 env1 w H1 F1 g1 x1 rw1 h1 => ?_
  unfold crB at h1
  cases ho : ownAt env1 i with
  | none => rw [ho] at h1; exact h1.elim
  | some ds =>
    rw [ho] at h1
    obtain ⟨a, vs, e1, e2, e3⟩ := own_at g1 ho
    refine ⟨_, e1, ?_⟩
    unfold crO at h1
    dsimp only at h1
    cases hz : f r1.fz (.lst ds) with
    | none => rw [hz] at h1; exact h1.elim
    | some z =>
      rw [hz] at h1
      refine hs Z.G H1 w (.ref a) r1.fz ds z Q hK (rw1.mono g1.fh) (.lst e2 (e3.mono g1.fh)) hz fun b hb => ?_
      subst hb
      exact h1 (.bl b) H1 F1 g1 (Ex.refl F1) (.bl b)
section
variable {X : Cx} {Z : Zd} {a : Expr} {oa : FE.Env → OE} {pos p : Pos} {x : PySem.Str}
theorem n_cmpR (i : Nat) {op : CmpOp} {r : R2} {f : D → D → Option R} (ho : OpR X (compareOp op) r) (hs : SDr X.K r f) (ha : PE X a (tE Z oa)) (hK : Z.G.K = X.K) (hN : X.N[i]? = some x := by rfl) (hv : Vis X.env.scope x := by first | exact Or.inl rfl | exact Or.inr (Or.inl rfl) | exact Or.inr (Or.inr rfl)) (hd : (x == ("__debug__" : PySem.Str)) = false := by decide)
    (hcd : (x == ("__classdict__" : PySem.Str)) = false := by decide) (hm : behindInMarks op (.Name x p) = false := by rfl) : PE X (.Compare a [op] [.Name x p] pos) (tE Z (oCmpR f oa i)) :=
  PE.imp (pe_cmpR ho ha (pe_var hN hv hd hcd) hm) fun σ H Q h => cmpR_to hs hK h
theorem n_tcmpR (i : Nat) {op : CmpOp} {r : R2} {f : D → D → Option R} (ho : OpR X (compareOp op) r) (hs : SDr X.K r f) (ha : PE X a (tE Z oa)) (hK : Z.G.K = X.K) (hN : X.N[i]? = some x := by rfl) (hv : Vis X.env.scope x := by first | exact Or.inl rfl | exact Or.inr (Or.inl rfl) | exact Or.inr (Or.inr rfl)) (hd : (x == ("__debug__" : PySem.Str)) = false := by decide)
    (hcd : (x == ("__classdict__" : PySem.Str)) = false := by decide) (hm : behindInMarks op (.Name x p) = false := by rfl) : PT X (.Compare a [op] [.Name x p] pos) (tT Z (oTru (oCmpR f oa i))) := by
  refine PT.imp (pt_cmpR ho ha (pe_var hN hv hd hcd) hm) fun σ H Q h => ?_
  exact cmpR_to hs hK (test_to h)
end
/-! ### x.pop(), x.pop(e) of a list of one's own -/
theorem RepL.erase {G : Gd} {F : Hp} : ∀ {vs : List V} {ds : List D} (i : Nat), RepL G F vs ds → RepL G F (vs.eraseIdx i) (ds.eraseIdx i)
  | _, _, _, .nil => .nil
  | _, _, 0, .cons _ r => r
  | _, _, i + 1, .cons h r => .cons h (RepL.erase i r)
theorem RepL.dropLast {G : Gd} {F : Hp} {vs : List V} {ds : List D} (r : RepL G F vs ds) : RepL G F vs.dropLast ds.dropLast := by
  rw [List.dropLast_eq_take, List.dropLast_eq_take, r.length]
  exact r.take _
def popO (i j : Nat) (e : FE.Env) (ds : List D) : Option D → OE
  | some d => (match setOwn e i (ds.eraseIdx j) with
    | some e2 => .ok (.sh d) e2
    | none => .bad)
  | none => .bad
def popA (i : Nat) (d : D) (e : FE.Env) : Option (List D) → OE
  | some ds => (match d with
    | .int k => if 0 ≤ k ∧ k < ds.length ∧ ds.length ≤ 1000000 then popO i k.toNat e ds ds[k.toNat]? else .bad
    | _ => .bad)
  | none => .bad
def popK (i : Nat) (r : R) (e : FE.Env) : OE := popA i r.fz e (e[i]?.bind Own)
def popH (i : Nat) (oi : FE.Env → OE) (env : FE.Env) : Bool → OE
  | true => (oi env).bind (popK i)
  | false => .bad
def oPop (i : Nat) (oi : FE.Env → OE) : FE.Env → OE := fun env => popH i oi env (env[i]?.bind Own).isSome
def popL (i : Nat) (e : FE.Env) : Option (List D) → OE
  | some ds => if ds = [] then .bad else popO i (ds.length - 1) e ds ds[ds.length - 1]?
  | none => .bad
def oPop0 (i : Nat) : FE.Env → OE := fun env => popL i env (env[i]?.bind Own)
section
variable {X : Cx} {Z : Zd} {a : Expr} {oa : FE.Env → OE} {x : PySem.Str} {p apos cpos : Pos}
theorem pop_post {F H : Hp} {σ : L2.St} {env : FE.Env} {Q : VK} {i j : Nat} {ds : List D} {a0 : Addr} (g : Good Z F σ H env) (ho : env[i]?.bind Own = some ds) (hu : σ[i]? = some (some (.ref a0))) (h : PostE Z F σ Q (popO i j env ds ds[j]?)) :
    ∃ vs y, H a0 = some (.lst vs) ∧ vs.length = ds.length ∧ vs[j]? = some y ∧ Q y (upd H a0 (.lst (vs.eraseIdx j))) := by
  obtain ⟨s, e1, e2⟩ := own_get ho
  obtain ⟨a, vs, q1, q2, q3, q4, q5⟩ := g.ow i s ds e1 e2
  rw [hu] at q1
  cases q1
  cases hd : ds[j]? with
  | none => rw [hd] at h; exact h.elim
  | some d =>
    rw [hd] at h
    obtain ⟨y, h1, h2⟩ := q4.get hd
    unfold popO at h
    cases he : setOwn env i (ds.eraseIdx j) with
    | none => rw [he] at h; exact h.elim
    | some env5 =>
      rw [he] at h
      exact ⟨vs, y, q2, q4.length, h1, h y _ F (g.wr e1 e2 hu q2 (q4.erase j) he) (Ex.refl F) h2⟩
theorem seqIndex_nat {n : Nat} {k : Int} (h0 : 0 ≤ k) (h1 : k < n) : seqIndex? k n = some k.toNat :=
  (ixN_seq (show ixN n k = some k.toNat by unfold ixN; rw [if_pos h0, if_pos h1])).1
theorem n_popAt (i : Nat) (ha : PE X a (tE Z oa)) (hN : X.N[i]? = some x := by rfl) (hv : Vis X.env.scope x := by first | exact Or.inl rfl | exact Or.inr (Or.inl rfl) | exact Or.inr (Or.inr rfl)) (hd : (x == ("__debug__" : PySem.Str)) = false := by decide)
    (hcd : (x == ("__classdict__" : PySem.Str)) = false := by decide) (hline : (apos.endLine == cpos.line) = true := by rfl) (hs : starEach [a] X.env = (false, eval a X.env) :: starEach [] X.env := by rfl)
    (hfew : ((backTo cpos (starEach [a] X.env)).all (fun x => !x.1) && (backToKw cpos (keywordEach [] X.env)).all (fun x => x.1.isSome)
      && decide ([a].length + ([] : List Keyword).length + (if ([] : List Keyword).isEmpty then 0 else 1) < 30)) = true := by rfl) :
    PE X (.Call (.Attribute (.Name x p) "pop" apos) [a] [] cpos) (tE Z (oPop i oa)) := by
  refine PE.imp (pe_bm PySem.F.plainAttrs_list PySem.F.slot_list_pop PySem.F.type_list_pop mt_popAt (pe_var hN hv hd hcd) (pa_cons ha pa_nil hs) (hfew := hfew) (hline := hline) (hs := hs)) fun σ H Q ⟨F, env, g, h⟩ => ?_
  unfold oPop popH at h
  cases hh : (env[i]?.bind Own).isSome with
  | false => rw [hh] at h; exact h.elim
  | true =>
    rw [hh] at h
    obtain ⟨ds0, hs0⟩ := Option.isSome_iff_exists.mp hh
    obtain ⟨s0, k1, k2⟩ := own_get hs0
    obtain ⟨a0, vs0, hu, k3, _⟩ := g.ow i s0 ds0 k1 k2
    refine ⟨.ref a0, hu, .inl ⟨rfl, _, .inl (.inl k3)⟩, ?_⟩
    refine seqE g h fun rv env1 v H1 F1 g1 x1 r1 h1 => ?_
    unfold popK at h1
    cases ho : env1[i]?.bind Own with
    | none => rw [ho] at h1; exact h1.elim
    | some ds =>
      rw [ho] at h1
      generalize rv.fz = d at h1 r1
      cases r1 <;> try exact h1.elim
      rename_i k
      unfold popA at h1
      dsimp only at h1
      split at h1
      case isFalse => exact h1.elim
      rename_i hk
      obtain ⟨vs, y, m1, m2, m3, m4⟩ := pop_post g1 ho hu h1
      exact ⟨a0, vs, k, k.toNat, y, rfl, rfl, m1, by omega, by omega, by rw [m2]; exact seqIndex_nat hk.1 hk.2.1, m3, m4⟩
theorem n_pop0 (i : Nat) (hN : X.N[i]? = some x := by rfl) (hv : Vis X.env.scope x := by first | exact Or.inl rfl | exact Or.inr (Or.inl rfl) | exact Or.inr (Or.inr rfl)) (hd : (x == ("__debug__" : PySem.Str)) = false := by decide)
    (hcd : (x == ("__classdict__" : PySem.Str)) = false := by decide) (hline : (apos.endLine == cpos.line) = true := by rfl) :
    PE X (.Call (.Attribute (.Name x p) "pop" apos) [] [] cpos) (tE Z (oPop0 i)) := by
  refine PE.imp (pe_bm0 PySem.F.plainAttrs_list PySem.F.slot_list_pop PySem.F.type_list_pop mt_pop (pe_var hN hv hd hcd) (hline := hline)) fun σ H Q ⟨F, env, g, h⟩ => ?_
  unfold oPop0 at h
  cases ho : env[i]?.bind Own with
  | none => rw [ho] at h; exact h.elim
  | some ds =>
    rw [ho] at h
    unfold popL at h
    dsimp only at h
    split at h
    case isTrue => exact h.elim
    rename_i hne
    obtain ⟨s0, k1, k2⟩ := own_get ho
    obtain ⟨a0, vs0, hu, k3, _⟩ := g.ow i s0 ds k1 k2
    obtain ⟨vs, y, m1, m2, m3, m4⟩ := pop_post g ho hu h
    refine ⟨.ref a0, hu, .inl ⟨rfl, _, .inl (.inl k3)⟩, a0, vs, y, rfl, rfl, m1, by rw [m2]; exact m3, ?_⟩
    have e : vs.eraseIdx (ds.length - 1) = vs.dropLast := by
      rw [← m2, List.dropLast_eq_take, List.eraseIdx_eq_take_drop_succ, List.drop_of_length_le (by omega), List.append_nil]
    rw [e] at m4
    exact m4
end
end FE

namespace FE
open PySem PySem.Spec PyProof.Rows L2
/-! ### texts in order -/
theorem ltCps_iff : ∀ a b : List Nat, ltCps a b = true ↔ a < b
  | [], [] => by simp [ltCps]
  | [], _ :: _ => by simp [ltCps]
  | _ :: _, [] => by simp [ltCps]
  | a :: r, b :: t => by
    have ih := ltCps_iff r t
    rw [List.cons_lt_cons_iff, ← ih]
    simp [ltCps]
theorem str_ext {a b : PySem.Str} (h : a.cps.toList = b.cps.toList) : a = b := by
  cases a
  cases b
  congr 1
  exact Array.toList_inj.mp h
theorem strLt_iff {a b : PySem.Str} : strLt a b = true ↔ a.cps.toList < b.cps.toList := by
  unfold strLt
  exact decide_eq_true_iff
theorem strLt_irrefl (a : PySem.Str) : strLt a a = false := by
  cases h : strLt a a with
  | false => rfl
  | true => exact absurd (strLt_iff.mp h) (List.lt_irrefl _)
theorem strLt_trans {a b c : PySem.Str} (h1 : strLt a b = true) (h2 : strLt b c = true) : strLt a c = true := strLt_iff.mpr (List.lt_trans (strLt_iff.mp h1) (strLt_iff.mp h2))
theorem strLt_anti {a b : PySem.Str} (h1 : strLt a b = false) (h2 : strLt b a = false) : a = b := by
  apply str_ext
  have n1 : ¬ a.cps.toList < b.cps.toList := fun q => by rw [strLt_iff.mpr q] at h1; cases h1
  have n2 : ¬ b.cps.toList < a.cps.toList := fun q => by rw [strLt_iff.mpr q] at h2; cases h2
  exact List.le_antisymm (List.not_lt.mp n2) (List.not_lt.mp n1)
/-- at most -/
def strLe (a b : PySem.Str) : Prop := strLt b a = false
theorem strLe_trans {a b c : PySem.Str} (h1 : strLe a b) (h2 : strLe b c) : strLe a c := by
  unfold strLe at *
  have n1 : ¬ b.cps.toList < a.cps.toList := fun q => by rw [strLt_iff.mpr q] at h1; cases h1
  have n2 : ¬ c.cps.toList < b.cps.toList := fun q => by rw [strLt_iff.mpr q] at h2; cases h2
  cases h : strLt c a with
  | false => rfl
  | true => exact absurd (List.not_lt.mpr (List.le_trans (List.not_lt.mp n1) (List.not_lt.mp n2))) (fun q => q (strLt_iff.mp h))
theorem strLe_total (a b : PySem.Str) : strLe a b ∨ strLe b a := by
  unfold strLe
  cases h : strLt b a with
  | false => exact .inl rfl
  | true =>
    cases h2 : strLt a b with
    | false => exact .inr rfl
    | true =>
      have := strLt_trans h h2
      rw [strLt_irrefl] at this
      cases this
theorem ltC_false {a b : PySem.Str} (h : ltCps a.cps.toList b.cps.toList = false) : strLe b a := by
  unfold strLe
  cases q : strLt a b with
  | false => rfl
  | true => rw [(ltCps_iff _ _).mpr (strLt_iff.mp q)] at h; cases h
theorem rising_pw : ∀ (r : List PySem.Str) (p : PySem.Str), risingS p r = true → (p :: r).Pairwise strLe
  | [], p, _ => List.pairwise_singleton _ _
  | x :: r, p, h => by
    unfold risingS at h
    rw [Bool.and_eq_true, Bool.not_eq_true'] at h
    have ih := rising_pw r x h.2
    have px := ltC_false h.1
    refine List.Pairwise.cons (fun y hy => ?_) ih
    rcases List.mem_cons.mp hy with rfl | hy
    · exact px
    · exact strLe_trans px ((List.pairwise_cons.mp ih).1 y hy)
theorem sortedS_pw : ∀ {ys : List PySem.Str}, sortedS ys = true → ys.Pairwise strLe
  | [], _ => List.Pairwise.nil
  | x :: r, h => rising_pw r x h
def insS (x : PySem.Str) : List PySem.Str → List PySem.Str
  | [] => [x]
  | y :: r => if strLt y x = true then y :: insS x r else x :: y :: r
def sortS : List PySem.Str → List PySem.Str
  | [] => []
  | x :: r => insS x (sortS r)
theorem insS_perm (x : PySem.Str) : ∀ ys : List PySem.Str, (insS x ys).Perm (x :: ys)
  | [] => List.Perm.refl _
  | y :: r => by
    unfold insS
    split
    · exact ((insS_perm x r).cons y).trans (List.Perm.swap x y r)
    · exact List.Perm.refl _
theorem sortS_perm : ∀ xs : List PySem.Str, (sortS xs).Perm xs
  | [] => List.Perm.refl _
  | x :: r => (insS_perm x (sortS r)).trans ((sortS_perm r).cons x)
theorem insS_pw (x : PySem.Str) : ∀ ys : List PySem.Str, ys.Pairwise strLe → (insS x ys).Pairwise strLe
  | [], _ => List.pairwise_singleton _ _
  | y :: r, h => by
    obtain ⟨h1, h2⟩ := List.pairwise_cons.mp h
    unfold insS
    split
    · rename_i c
      refine List.Pairwise.cons (fun z hz => ?_) (insS_pw x r h2)
      rcases List.mem_cons.mp ((insS_perm x r).mem_iff.mp hz) with rfl | hz
      · unfold strLe
        cases q : strLt z y with
        | false => rfl
        | true =>
          have := strLt_trans c q
          rw [strLt_irrefl] at this
          cases this
      · exact h1 z hz
    · rename_i c
      have xy : strLe x y := by
        unfold strLe
        cases q : strLt y x with
        | false => rfl
        | true => exact absurd q c
      refine List.Pairwise.cons (fun z hz => ?_) h
      rcases List.mem_cons.mp hz with rfl | hz
      · exact xy
      · exact strLe_trans xy (h1 z hz)
theorem sortS_pw : ∀ xs : List PySem.Str, (sortS xs).Pairwise strLe
  | [] => List.Pairwise.nil
  | x :: r => insS_pw x _ (sortS_pw r)
theorem pw_uniq : ∀ {xs ys : List PySem.Str}, xs.Perm ys → xs.Pairwise strLe → ys.Pairwise strLe → xs = ys
  | [], ys, p, _, _ => (List.nil_perm.mp p).symm
  | x :: r, [], p, _, _ => by
    have := p.length_eq
    cases this
  | x :: r, y :: s, p, h1, h2 => by
    obtain ⟨a1, a2⟩ := List.pairwise_cons.mp h1
    obtain ⟨b1, b2⟩ := List.pairwise_cons.mp h2
    have e : x = y := by
      have hx : x ∈ y :: s := p.mem_iff.mp List.mem_cons_self
      have hy : y ∈ x :: r := p.mem_iff.mpr List.mem_cons_self
      rcases List.mem_cons.mp hx with e | hx
      · exact e
      rcases List.mem_cons.mp hy with e | hy
      · exact e.symm
      exact strLt_anti (b1 x hx) (a1 y hy)
    subst e
    rw [pw_uniq (List.Perm.cons_inv p) a2 b2]
theorem sortS_uniq {xs ys : List PySem.Str} (p : ys.Perm xs) (h : sortedS ys = true) : ys = sortS xs := pw_uniq (p.trans (sortS_perm xs).symm) (sortedS_pw h) (sortS_pw xs)
def strL (xs : List PySem.Str) : List D := xs.map D.str
theorem repL_strs {G : Gd} {F : Hp} : ∀ {vs : List V} {xs : List PySem.Str}, RepL G F vs (strL xs) → vs = xs.map V.str
  | _, [], .nil => rfl
  | _, x :: xs, .cons h r => by
    cases h
    rw [repL_strs (xs := xs) r]
    rfl
theorem repL_ofS {G : Gd} {F : Hp} : ∀ xs : List PySem.Str, RepL G F (xs.map V.str) (strL xs)
  | [] => .nil
  | x :: xs => .cons (.str x) (repL_ofS xs)
theorem strsD_eq : ∀ {ds : List D} {xs : List PySem.Str}, strsD ds = some xs → ds = strL xs
  | [], xs, h => by
    unfold strsD at h
    cases h
    rfl
  | d :: ds, xs, h => by
    unfold strsD at h
    cases d <;> try cases h
    rename_i x
    dsimp only at h
    cases q : strsD ds with
    | none => rw [q] at h; cases h
    | some ys =>
      rw [q] at h
      cases h
      rw [strsD_eq q]
      rfl
theorem strsD_ofS : ∀ xs : List PySem.Str, strsD (strL xs) = some xs
  | [] => rfl
  | x :: xs => by
    show strsD (.str x :: strL xs) = _
    unfold strsD
    rw [strsD_ofS xs]
    rfl
def sortF : List D → Option R
  | [.lst ds] => (strsD ds).bind fun xs => if xs.length < 64 then some (.ow (strL (sortS xs))) else none
  | _ => none
theorem s_sortS {G : Gd} : SCall G (rSortedS G.K) sortF := by
  intro Z F σ H env xs ds z Q hG g r h q
  subst hG
  unfold sortF at h
  split at h
  case h_2 => cases h
  rename_i es
  obtain ⟨v, rfl, rv⟩ := r.one
  cases rv with
  | lst h1 r1 =>
    cases e : strsD es with
    | none => rw [e] at h; cases h
    | some ys =>
      rw [e] at h
      dsimp only [Option.bind_some] at h
      split at h
      case isFalse => cases h
      rename_i hl
      cases h
      rw [strsD_eq e] at r1
      rw [repL_strs r1] at h1
      refine ⟨_, ys, rfl, (g.fh.lr h1).sq, hl, fun zs p hp hs hn => ?_⟩
      rw [sortS_uniq hp hs]
      exact q _ _ F (g.lay hn) (Ex.refl F) (g.mine hn (repL_ofS _))
theorem e_sortF (xs : List PySem.Str) (h : xs.length < 64) : sortF [.lst (strL xs)] = some (.ow (strL (sortS xs))) := by
  unfold sortF
  dsimp only
  rw [strsD_ofS]
  show (if xs.length < 64 then some (R.ow (strL (sortS xs))) else none) = _
  rw [if_pos h]
/-! ### tuple(range(..)) -/
def tupRgK (ds : List D) (e : FE.Env) : OE := match ds with
  | [.int n] => if 0 ≤ n ∧ n ≤ 1000000 then .ok (.sh (.tup (rngD 0 n.toNat))) e else .bad
  | _ => .bad
def oTupRg (os : FE.Env → OA) : FE.Env → OE := fun env => (os env).bindE tupRgK
theorem rep_rng {G : Gd} {F : Hp} (n : Nat) : RepL G F (rgV 0 (n : Int)) (rngD 0 n) := by
  unfold rgV rngD
  rw [show ((n : Int) - 0).toNat = n by omega]
  generalize List.range n = l
  induction l with
  | nil => exact .nil
  | cons a l ih => exact .cons (.int _) ih
def tTupRgN (te : L2.St → Hp → (Int → Int → Hp → Prop) → Prop) : TE := fun σ H Q => te σ H fun a b H1 => RgOk a b ∧ ∀ (q : Addr) (o : Obj), H1 q = none → o.dict = none → Q (.ref q) (upd H1 q (.frz o (.tup (rgV a b))))
theorem pe_tupRgN {X : Cx} {e : Expr} {te : L2.St → Hp → (Int → Int → Hp → Prop) → Prop} {p pos : Pos} (hc : X.calm = true) (hg : Gl X "tuple") (hm : X.mg "tuple" = none) (he : PRg X e te) (na : starEach [e] X.env = (false, eval e X.env) :: starEach [] X.env := by rfl) : PE X (.Call (.Name "tuple" p) [e] [] pos) (tTupRgN te) := by
  refine ⟨fun pins s σ H Q I h => ?_⟩
  refine Call_ (ld_blt I hg hm boot_tuple (PyProof.Rows.callWith_type1 (args_cons (thn (he pins s σ H _ I h) fun x s1 ⟨r, a, b, t, u, v, H1, ex, hr, I1, ok, q⟩ => args_nil ?_) na) na))
  subst ex
  obtain ⟨b1, b2, b3, b4, b5⟩ := ok
  refine call_tuple_range (n := (b - a).toNat) (I1.ok.hd hc) hr (small_one b1 b2 b3 b4) (rangeSize_nat a b) b5 fun h' tk acc hk hi => ?_
  have I2 : Inv X pins σ H1 { s1 with heap := h', toks := tk } := I1.kept hk
  refine ⟨.ref h'.objs.size, _, I2.laid (t' := tk) (o := .frz { cls := .type "tuple", data := .seq acc } (.tup (rgV a b))) (fun c o e => Heap.get?_push_of_some _ e) (Nat.le_refl _) (show ObjOk X.prog X.w _ _ _ (.frz _ (.tup (rgV a b))) from ⟨Heap.get?_push_size _ rfl, ?_, acc.toList, vals_rg hi, ?_⟩), rfl, q _ _ (I2.hok.fresh (Nat.le_refl _)) rfl⟩
  · rw [rgV_length, sizeLine_eq]; omega
  · rw [Array.toArray_toList]; exact IsTup.new _ _
section
variable {X : Cx} {Z : Zd} {a : Expr} {oa : FE.Env → OE} {p p2 pos pos2 : Pos}
theorem n_tupRg (hm : X.mg "tuple" = none) (hm2 : X.mg "range" = none) (ha : PE X a (tE Z oa)) (hc : X.calm = true := by rfl) (hg : Gl X "tuple" := by rfl) (hg2 : Gl X "range" := by rfl) (na : starEach [a] X.env = (false, eval a X.env) :: starEach [] X.env := by rfl)
    (nb : starEach [.Call (.Name "range" p2) [a] [] pos2] X.env = (false, eval (.Call (.Name "range" p2) [a] [] pos2) X.env) :: starEach [] X.env := by rfl) :
    PE X (.Call (.Name "tuple" p) [.Call (.Name "range" p2) [a] [] pos2] [] pos) (tE Z (oTupRg (oCons oa oNil))) := by
  refine PE.imp (pe_tupRgN hc hg hm (prg_1 hg2 hm2 ha na) nb) fun σ H Q ⟨F, env, g, h⟩ => ?_
  have h' : PostE Z F σ Q ((oa env).bind fun r e => tupRgK [r.fz] e) := by
    unfold oTupRg oCons oNil at h
    cases e : oa env with
    | ok r e1 => rw [e] at h; exact h
    | exc x e1 => rw [e] at h; exact h
    | bad => rw [e] at h; exact h
  refine seqE g h' fun r1 env1 v1 H1 F1 g1 x1 rp1 h1 => ?_
  generalize r1.fz = d at h1 rp1
  unfold tupRgK at h1
  split at h1
  case h_2 => exact h1.elim
  rename_i n e
  cases e
  cases rp1
  split at h1
  case isFalse => exact h1.elim
  rename_i hn
  obtain ⟨m, rfl⟩ : ∃ m : Nat, n = (m : Int) := ⟨n.toNat, by omega⟩
  refine ⟨_, rfl, ⟨by omega, by omega, by omega, by omega, by omega⟩, fun q o hq ho => ?_⟩
  rw [Int.toNat_natCast] at h1
  exact h1 (.ref q) _ _ (g1.layF hq) (Ex.new (g1.fresh hq)) (.tup (.new ho) (rep_rng m))
end
end FE

namespace FE
open PySem PySem.Spec PyProof.Rows L2
/-! ### the new nodes' equations -/
def atO2 (e : FE.Env) : Option D → OE
  | some d => .ok (.sh d) e
  | none => .bad
def attrK (c f : PySem.Str) (r : R) (e : FE.Env) : OE := atO2 e (atD c f r.fz)
theorem e_attr (c f : PySem.Str) (oa : FE.Env → OE) (env : FE.Env) : oAttr c f oa env = (oa env).bind (attrK c f) := by
  unfold oAttr
  unfold attrK atO2
  rfl
theorem e_attrK (c f : PySem.Str) (r : R) (e : FE.Env) : attrK c f r e = atO2 e (atD c f r.fz) := (rfl)
theorem e_atO2 (d : D) (e : FE.Env) : atO2 e (some d) = .ok (.sh d) e := (rfl)
def methK3 (f : List D → OC) (n : Nat) (r : R) (ds : List D) (e1 : FE.Env) : OE := if ds.length + 1 = n then okC (f (r.fz :: ds)) e1 else .bad
def methB (f : List D → OC) (n : Nat) (oa : FE.Env → OA) (r : R) (e0 : FE.Env) : Bool → OE
  | true => (oa e0).bindE (methK3 f n r)
  | false => .bad
def methK (c m : PySem.Str) (f : List D → OC) (n : Nat) (oa : FE.Env → OA) (r : R) (e0 : FE.Env) : OE := methB f n oa r e0 (isO c m r.fz)
theorem e_meth (c m : PySem.Str) (f : List D → OC) (n : Nat) (oo : FE.Env → OE) (oa : FE.Env → OA) (env : FE.Env) : oMeth c m f n oo oa env = (oo env).bind (methK c m f n oa) := by
  unfold oMeth
  congr 1
  funext r e
  unfold methK methB
  cases isO c m r.fz <;> rfl
theorem e_methK (c m : PySem.Str) (f : List D → OC) (n : Nat) (oa : FE.Env → OA) (r : R) (e0 : FE.Env) : methK c m f n oa r e0 = methB f n oa r e0 (isO c m r.fz) := (rfl)
theorem e_methB (f : List D → OC) (n : Nat) (oa : FE.Env → OA) (r : R) (e0 : FE.Env) : methB f n oa r e0 true = (oa e0).bindE (methK3 f n r) := (rfl)
theorem e_methK3 (f : List D → OC) (n : Nat) (r : R) (ds : List D) (e1 : FE.Env) : methK3 f n r ds e1 = if ds.length + 1 = n then okC (f (r.fz :: ds)) e1 else .bad := (rfl)
theorem e_okC_ret (r : R) (out : List D) (e : FE.Env) : okC (.ret r out) e = .ok r e := (rfl)
theorem e_okC_exc (x : Xc) (out : List D) (e : FE.Env) : okC (.exc x out) e = .exc x e := (rfl)
theorem e_make (c : PySem.Str) (f : V → List D → OJ) (n m : Nat) (gD : List D → List D → List D) (oa ok : FE.Env → OA) (env : FE.Env) : oMake c f n m gD oa ok env = (oa env).bindE (mkK1 c f n m gD ok) := (rfl)
theorem e_mkK1 (c : PySem.Str) (f : V → List D → OJ) (n m : Nat) (gD : List D → List D → List D) (ok : FE.Env → OA) (ds : List D) (e1 : FE.Env) : mkK1 c f n m gD ok ds e1 = (ok e1).bindE (mkK2 c f n m gD ds) := (rfl)
theorem e_mkK2 (c : PySem.Str) (f : V → List D → OJ) (n m : Nat) (gD : List D → List D → List D) (ds es : List D) (e2 : FE.Env) : mkK2 c f n m gD ds es e2 = if ds.length = n ∧ es.length = m then okJ c e2 (mkO f (gD ds es)) else .bad := (rfl)
theorem e_okJ (c : PySem.Str) (e : FE.Env) (ns : List PySem.Str) (ds : List D) : okJ c e (.done ns ds) = .ok (.sh (.obj c ns ds)) e := (rfl)
theorem e_okJx (c : PySem.Str) (e e' : FE.Env) (x : Xc) : okJ c e (.exc x e') = .exc x e := (rfl)
theorem e_jSet (f : PySem.Str) (oa : FE.Env → OE) (k : FE.Env → List PySem.Str → List D → OJ) (env : FE.Env) (ns : List PySem.Str) (ds : List D) : jSet f oa k env ns ds = if env.all flatS = true ∧ f ∉ ns ∧ ns.length < 100 then iniO f ns ds k (oa env) else .bad := (rfl)
theorem e_iniO (f : PySem.Str) (ns : List PySem.Str) (ds : List D) (k : FE.Env → List PySem.Str → List D → OJ) (r : R) (e : FE.Env) : iniO f ns ds k (.ok r e) = k e (ns ++ [f]) (ds ++ [r.fz]) := (rfl)
theorem e_jEnd (env : FE.Env) (ns : List PySem.Str) (ds : List D) : jEnd env ns ds = .done ns ds := (rfl)
theorem e_jSeq (o : FE.Env → OS) (k : FE.Env → OJ) (env : FE.Env) : jSeq o k env = jSeqO k (o env) := (rfl)
theorem e_jSeqO (k : FE.Env → OJ) (e : FE.Env) : jSeqO k (.nx e) = k e := (rfl)
theorem e_jSeqOx (k : FE.Env → OJ) (x : Xc) (e : FE.Env) : jSeqO k (.exc x e) = .exc x e := (rfl)
theorem e_flat_no : flatS .no = true := (rfl)
theorem e_flat_sh (d : D) : flatS (.sh d) = true := (rfl)
theorem e_cmpR (f : D → D → Option R) (oa : FE.Env → OE) (i : Nat) (env : FE.Env) : oCmpR f oa i env = (oa env).bind (crB f i) := (rfl)
theorem e_crB (f : D → D → Option R) (i : Nat) (r : R) (e : FE.Env) : crB f i r e = crO f r e (ownAt e i) := (rfl)
theorem e_crO (f : D → D → Option R) (r : R) (e : FE.Env) (ds : List D) : crO f r e (some ds) = cvZ e (f r.fz (.lst ds)) := (rfl)
theorem e_pop (i : Nat) (oi : FE.Env → OE) (env : FE.Env) : oPop i oi env = popH i oi env (env[i]?.bind Own).isSome := (rfl)
theorem e_popH (i : Nat) (oi : FE.Env → OE) (env : FE.Env) : popH i oi env true = (oi env).bind (popK i) := (rfl)
theorem e_popK (i : Nat) (r : R) (e : FE.Env) : popK i r e = popA i r.fz e (e[i]?.bind Own) := (rfl)
theorem e_popA (i : Nat) (k : Int) (e : FE.Env) (ds : List D) : popA i (.int k) e (some ds) = if 0 ≤ k ∧ k < ds.length ∧ ds.length ≤ 1000000 then popO i k.toNat e ds ds[k.toNat]? else .bad := (rfl)
def popS (d : D) : Option FE.Env → OE
  | some e2 => .ok (.sh d) e2
  | none => .bad
theorem e_popO (i j : Nat) (e : FE.Env) (ds : List D) (d : D) : popO i j e ds (some d) = popS d (setOwn e i (ds.eraseIdx j)) := by
  unfold popO popS
  rfl
theorem e_popS (d : D) (e : FE.Env) : popS d (some e) = .ok (.sh d) e := (rfl)
theorem e_pop0 (i : Nat) (env : FE.Env) : oPop0 i env = popL i env (env[i]?.bind Own) := (rfl)
theorem e_popL (i : Nat) (env : FE.Env) (ds : List D) (h : ds ≠ []) : popL i env (some ds) = popO i (ds.length - 1) env ds ds[ds.length - 1]? := by
  unfold popL
  exact if_neg h
theorem e_tupRg (os : FE.Env → OA) (env : FE.Env) : oTupRg os env = (os env).bindE tupRgK := (rfl)
theorem e_tupRgK (n : Int) (e : FE.Env) : tupRgK [.int n] e = if 0 ≤ n ∧ n ≤ 1000000 then .ok (.sh (.tup (rngD 0 n.toNat))) e else .bad := (rfl)
theorem e_atD (c f : PySem.Str) (ns : List PySem.Str) (ds : List D) : atD c f (.obj c ns ds) = (ns.zip ds).lookup f := by
  unfold atD
  exact if_pos rfl
theorem e_isO (c m : PySem.Str) (ns : List PySem.Str) (ds : List D) : isO c m (.obj c ns ds) = decide (m ∉ ns) := by
  show (decide (c = c) && decide (m ∉ ns)) = _
  rw [decide_eq_true (rfl : c = c), Bool.true_and]
/-! ### classes, from the head's facts -/
section
variable {P : Program} {w : World} {K : PySem.W.Frag} {mg : PySem.Str → Option Value} {base h : Heap} {k : Nat} {x m nm qual : PySem.Str} {params : Arguments} {body : List Stmt} {scope : Scope} {fd : FuncData} {ps : List PySem.Str} {sp : Sp}
theorem calM_of (gm : (He.Fa.meth x m).ok K = true) (F : FunD K nm qual params body scope [] [] (He.ma K (He.ga K x) m) fd) (fn : FnG P w K mg base k (He.ma K (He.ga K x) m) fd ps sp)
    (b : ∀ (kV doc pm : Value) (an : Option Addr) (cdv ct : Value) (us : List Value), us.length = ps.length → bindArgs (PySem.W.fnOf nm qual params body scope .none kV doc pm an cdv ct) ⟨us, []⟩ = pure (ps.zip us)) : CalM P w K mg base k (He.ga K x) m ps.length sp := by
  refine ⟨_, fd, ps, He.meth_ok gm, fn, ?_⟩
  have bs := F.bindsN (ps := ps) b
  constructor
  · intro s us ws KX l1 l2
    have : ws = [] := List.length_eq_zero_iff.mp l2
    subst this
    have := bs s us KX (by rw [List.append_nil]; exact l1)
    rw [List.append_nil] at this
    exact this
  · exact fun r _ => r
theorem cal_of2 (X : K.In h) (G : h.Ns mainGlobals mg) (g : (He.Fa.glo x).ok K = true) (F : FunD K nm qual params body scope [] [] (He.ga K x) fd) (fn : FnG P w K mg base k (He.ga K x) fd ps sp)
    (b : ∀ (kV doc pm : Value) (an : Option Addr) (cdv ct : Value) (us : List Value), us.length = ps.length → bindArgs (PySem.W.fnOf nm qual params body scope .none kV doc pm an cdv ct) ⟨us, []⟩ = pure (ps.zip us)) : Cal P w K mg base k x ps.length [] (fun vs _ => vs) sp := by
  refine ⟨_, fd, ps, fun us _ => us, He.glo_ok X G g, F.kp, fn, ?_⟩
  have bs := F.bindsN (ps := ps) b
  constructor
  · intro s us ws KX l1 l2
    have : ws = [] := List.length_eq_zero_iff.mp l2
    subst this
    have := bs s us KX (by rw [List.append_nil]; exact l1)
    rw [List.append_nil] at this
    exact this
  · exact fun r _ => r
/-- C(..): defaults by place and by name; n values by place (self not counted), the names ks; all by place are told -/
theorem calC_all {dvs : List V} {kws : List (PySem.Str × V)} (n : Nat) (ks : List PySem.Str) (ms : List (PySem.Str × V)) (X : K.In h) (G : h.Ns mainGlobals mg) (gl : (He.Fa.glo x).ok K = true) (gk : (He.Fa.mkr x).ok K = true)
    (F : FunD K nm qual params body scope dvs kws (He.ma K (He.ga K x) "__init__") fd) (fn : FnG P w K mg base k (He.ma K (He.ga K x) "__init__") fd ps sp) (hd : dvs ≠ []) (hk : kws ≠ []) (hms : ∀ q ∈ ms, q ∈ kws)
    (b : ∀ (T D : Addr) (doc pm : Value) (an : Option Addr) (cdv ct : Value) (us its mv ws : List Value), us.length = n + 1 → its.length = dvs.length → mv.length = ms.length → ws.length = ks.length →
      ∃ k, bindArgs (PySem.W.fnOf nm qual params body scope (.ref T) (.ref D) doc pm an cdv ct) ⟨us, ks.zip ws⟩ = seqItems? (.ref T) >>= k ∧ KwChain D ((ms.map (·.1)).zip mv) (k (some its.toArray)) (ps.zip (us ++ (mv ++ ws)))) :
    CalC P w K mg base k x (He.ga K x) n ks (fun vs zs => vs ++ (ms.map (·.2) ++ zs)) sp := by
  obtain ⟨its, mv, hb⟩ := F.kbinds (ps := ps) (n + 1) ks ms (fun us _ mv ws => us ++ (mv ++ ws)) hd hk hms (fun r1 _ r3 r4 => r1.append (r3.append r4)) b
  exact ⟨_, fd, ps, _, _, He.glo_ok X G gl, He.mkr_ok gk, fn, hb, fun v vs zs => rfl⟩
end
theorem grel_mz (n m : Nat) (mv : List V) (md : List D) (hm : ∀ G F, RepL G F mv md) : GRel (n + (mv.length + m)) n m (fun vs zs => vs ++ (mv ++ zs)) (fun ds es => ds ++ (md ++ es)) := grel_dk n m mv md hm
end FE

namespace FE
open PySem PySem.Spec PyProof.Rows L2
/-! ### sum of a list, of a tuple -/
theorem cr_sumT {X : Cx} (hc : X.calm = true) : CallR X (.builtin "sum") (fun vs H Q => ∃ (a : Addr) (ns : List Int), vs = [V.ref a] ∧ SqT X.K H a (ns.map V.int) ∧ Q (.int ns.sum) H) := by
  intro pins s σ H vs us Q I r h
  obtain ⟨a, ns, rfl, hs, q⟩ := h
  obtain ⟨its, rv, hl, _⟩ := I.tuple hs
  rw [Vals.ref1 r]
  have hi := rv.ints
  obtain ⟨xs, e⟩ := hi.allInts.items
  have hn : numsOf (intItems xs).toList = ns := by rw [← e]; exact hi.numsOf
  rw [nums_intItems] at hn
  obtain ⟨o, ho, hc', n, hd⟩ := hl
  have ht : s.heap.IsTuple a (intItems xs) := ⟨o, ho, hc', n, by rw [← e]; exact hd⟩
  refine PySem.W.ktm_sumG (I.ok.hd hc) ht fun h' tk t' hk => ?_
  refine ⟨.int _, H, I.kept hk, ⟨_, rfl⟩, ?_⟩
  rw [preSum_eq, List.take_of_length_le (by simp), hn]
  exact q
def sumF2 : List D → Option R
  | [.lst ds] => (intsD ds).map fun ns => .sh (.int ns.sum)
  | [.tup ds] => (intsD ds).map fun ns => .sh (.int ns.sum)
  | _ => none
def rSum2 (K : PySem.W.Frag) : List V → Hp → VK → Prop := fun vs H Q => rSum K vs H Q ∨ (fun vs H Q => ∃ (a : Addr) (ns : List Int), vs = [V.ref a] ∧ SqT K H a (ns.map V.int) ∧ Q (.int ns.sum) H : List V → Hp → VK → Prop) vs H Q
theorem cr_sum2 {X : Cx} (hc : X.calm = true) : CallR X (.builtin "sum") (rSum2 X.K) := (cr_sum hc).or (cr_sumT hc)
theorem s_sum2 {G : Gd} : SCall G (rSum2 G.K) sumF2 := by
  intro Z F σ H env xs ds z Q hG g r h q
  subst hG
  unfold sumF2 at h
  split at h
  · rename_i ds
    obtain ⟨v, rfl, rv⟩ := r.one
    cases rv with
    | lst h1 r1 =>
      cases e : intsD ds with
      | none => rw [e] at h; cases h
      | some ns =>
        rw [e] at h; cases h
        have ev := r1.ints e
        subst ev
        exact .inl ⟨_, ns, rfl, (g.fh.lr h1).sq, q _ H F g (Ex.refl F) (.int _)⟩
  · rename_i ds
    obtain ⟨v, rfl, rv⟩ := r.one
    cases rv with
    | tup h1 r1 =>
      cases e : intsD ds with
      | none => rw [e] at h; cases h
      | some ns =>
        rw [e] at h; cases h
        have ev := r1.ints e
        subst ev
        exact .inr ⟨_, ns, rfl, g.fh.t h1.t, q _ H F g (Ex.refl F) (.int _)⟩
  · cases h
theorem intsD_ofI : ∀ ns : List Int, intsD (intsL ns) = some ns
  | [] => rfl
  | n :: ns => by
    show intsD (.int n :: intsL ns) = _
    unfold intsD
    rw [intsD_ofI ns]
    rfl
theorem sum2_l (ns : List Int) : sumF2 [.lst (intsL ns)] = some (.sh (.int ns.sum)) := by
  unfold sumF2
  dsimp only
  rw [intsD_ofI]
  rfl
theorem sum2_t (ns : List Int) : sumF2 [.tup (intsL ns)] = some (.sh (.int ns.sum)) := by
  unfold sumF2
  dsimp only
  rw [intsD_ofI]
  rfl
/-! ### names -/
/-- one to eight small letters -/
def IsNm (x : PySem.Str) : Prop := 1 ≤ x.cps.toList.length ∧ x.cps.toList.length ≤ 8 ∧ ∀ c ∈ x.cps.toList, 97 ≤ c ∧ c ≤ 122
theorem len_tl (x : PySem.Str) : x.length = x.cps.toList.length := by
  show x.cps.size = _
  simp
/-- of more texts than others there is one that is none of these -/
theorem fresh_one : ∀ {xs ys : List PySem.Str}, xs.Nodup → ys.length < xs.length → ∃ x ∈ xs, x ∉ ys
  | [], ys, _, h => by simp at h
  | x :: xs, ys, nd, h => by
    obtain ⟨h1, h2⟩ := List.nodup_cons.mp nd
    by_cases hx : x ∈ ys
    · have hl : (ys.erase x).length < xs.length := by
        rw [List.length_erase_of_mem hx]
        have := List.length_pos_of_mem hx
        rw [List.length_cons] at h
        omega
      obtain ⟨z, hz, hn⟩ := fresh_one h2 hl
      refine ⟨z, List.mem_cons_of_mem _ hz, fun q => ?_⟩
      have ne : z ≠ x := fun e => h1 (e ▸ hz)
      exact hn ((List.mem_erase_of_ne ne).mpr q)
    · exact ⟨x, List.mem_cons_self, hx⟩
theorem inV_str (x : PySem.Str) : ∀ ys : List PySem.Str, inV (D.str x).fv ((strL ys).map D.fv) = decide (x ∈ ys)
  | [] => rfl
  | y :: ys => by
    have ih := inV_str x ys
    unfold inV at ih ⊢
    show (((D.str y).fv :: (strL ys).map D.fv).any fun z => eqV z (D.str x).fv) = _
    rw [List.any_cons, ih]
    show (decide (y = x) || decide (x ∈ ys)) = _
    by_cases e : y = x
    · subst e
      simp
    · have e' : ¬ x = y := fun q => e q.symm
      simp [e, e']
theorem flat_strs : ∀ ys : List PySem.Str, (strL ys).all flatD = true
  | [] => rfl
  | y :: ys => by
    show (flatD (.str y) && (strL ys).all flatD) = true
    rw [flat_strs ys]
    rfl
theorem inF_l (x : PySem.Str) (ys : List PySem.Str) : inF (.str x) (.lst (strL ys)) = some (.sh (.bl (decide (x ∈ ys)))) := by
  unfold inF bR inD inFl
  dsimp only
  rw [flat_strs]
  show Option.map _ ((some (inV (D.str x).fv ((strL ys).map D.fv))).or _) = _
  rw [inV_str]
  rfl
theorem inF_t (x : PySem.Str) (ys : List PySem.Str) : inF (.str x) (.tup (strL ys)) = some (.sh (.bl (decide (x ∈ ys)))) := by
  unfold inF bR inD inFl
  dsimp only
  rw [flat_strs]
  show Option.map _ (some (inV (D.str x).fv ((strL ys).map D.fv))) = _
  rw [inV_str]
  rfl
theorem ninF_l (x : PySem.Str) (ys : List PySem.Str) : ninF (.str x) (.lst (strL ys)) = some (.sh (.bl (!decide (x ∈ ys)))) := by
  unfold ninF bR inD inFl
  dsimp only
  rw [flat_strs]
  show Option.map _ (Option.map _ ((some (inV (D.str x).fv ((strL ys).map D.fv))).or _)) = _
  rw [inV_str]
  rfl
theorem ninF_t (x : PySem.Str) (ys : List PySem.Str) : ninF (.str x) (.tup (strL ys)) = some (.sh (.bl (!decide (x ∈ ys)))) := by
  unfold ninF bR inD inFl
  dsimp only
  rw [flat_strs]
  show Option.map _ (Option.map _ (some (inV (D.str x).fv ((strL ys).map D.fv)))) = _
  rw [inV_str]
  rfl
theorem strL_len (xs : List PySem.Str) : (strL xs).length = xs.length := by
  unfold strL
  rw [List.length_map]
theorem strL_app (xs ys : List PySem.Str) : strL xs ++ strL ys = strL (xs ++ ys) := by
  unfold strL
  rw [List.map_append]
theorem strL_cons (x : PySem.Str) (ys : List PySem.Str) : D.str x :: strL ys = strL (x :: ys) := rfl
theorem cut_strs (xs : List PySem.Str) (a b : Option Int) : cutL (strL xs) a b = strL (cutL xs a b) := by
  unfold cutL strL
  rw [List.length_map, List.map_take, List.map_drop]
end FE

namespace FE
open PySem PySem.Spec PyProof.Rows L2
/-! ### words -/
theorem cutS_cps (x : PySem.Str) (lo hi : Option Int) : (cutS x lo hi).cps.toList = cutL x.cps.toList lo hi := by
  unfold cutS cutL
  rw [len_tl]
theorem cut_lo {α : Type} (xs : List α) (k : Nat) : cutL xs none (some (k : Int)) = xs.take k := by
  unfold cutL
  rw [HT.sIx_none, HT.sIx_nat, List.drop_zero, Nat.sub_zero]
  by_cases h : k ≤ xs.length
  · rw [Nat.min_eq_left h]
  · rw [Nat.min_eq_right (by omega), List.take_of_length_le (Nat.le_refl _), List.take_of_length_le (by omega)]
theorem cut_hi {α : Type} (xs : List α) (k : Nat) : cutL xs (some (k : Int)) none = xs.drop k := by
  unfold cutL
  rw [HT.sIx_none, HT.sIx_nat]
  by_cases h : k ≤ xs.length
  · rw [Nat.min_eq_left h, List.take_of_length_le (by rw [List.length_drop]; omega)]
  · rw [Nat.min_eq_right (by omega), List.drop_of_length_le (Nat.le_refl _), List.drop_of_length_le (by omega), List.take_nil]
def withL (x : PySem.Str) (k : Nat) (c : Nat) : PySem.Str := cutS x none (some (k : Int)) ++ ⟨#[c]⟩ ++ cutS x (some ((k : Int) + 1)) none
theorem withL_cps (x : PySem.Str) (k c : Nat) : (withL x k c).cps.toList = x.cps.toList.take k ++ c :: x.cps.toList.drop (k + 1) := by
  unfold withL
  rw [app_cps, app_cps, cutS_cps, cutS_cps, cut_lo, show ((k : Int) + 1) = ((k + 1 : Nat) : Int) by omega, cut_hi, List.append_assoc]
  rfl
theorem withL_inj {x : PySem.Str} {k c d : Nat} (h : withL x k c = withL x k d) : c = d := by
  have e := congrArg (fun z : PySem.Str => z.cps.toList) h
  rw [withL_cps, withL_cps] at e
  exact (List.cons.inj (List.append_cancel_left e)).1
theorem withL_nm {x : PySem.Str} {k c : Nat} (h : IsNm x) (hk : k < x.cps.toList.length) (hc : 97 ≤ c ∧ c ≤ 122) : IsNm (withL x k c) := by
  obtain ⟨h1, h2, h3⟩ := h
  have l : (withL x k c).cps.toList.length = x.cps.toList.length := by
    rw [withL_cps, List.length_append, List.length_take, List.length_cons, List.length_drop]
    omega
  refine ⟨by omega, by omega, fun y hy => ?_⟩
  rw [withL_cps] at hy
  rcases List.mem_append.mp hy with hy | hy
  · exact h3 y (List.mem_of_mem_take hy)
  · rcases List.mem_cons.mp hy with rfl | hy
    · exact hc
    · exact h3 y (List.mem_of_mem_drop hy)
def LTR : PySem.Str := "abcdefghijklmnopqrstuvwxyz"
theorem ltr_cps : LTR.cps.toList = List.range' 97 26 := by decide +kernel
theorem ltr_mem {c : Nat} : c ∈ LTR.cps.toList ↔ 97 ≤ c ∧ c ≤ 122 := by
  rw [ltr_cps, List.mem_range'_1]
  omega
/-- some words are none of these -/
theorem fresh_with (x : PySem.Str) (k : Nat) (ys : List PySem.Str) (h : ys.length < 26) : ∃ c ∈ LTR.cps.toList, withL x k c ∉ ys := by
  have nd : (LTR.cps.toList.map fun c => withL x k c).Nodup := by
    rw [ltr_cps]
    refine List.pairwise_map.mpr ((List.nodup_range' (s := 97) (n := 26)).imp fun ne q => ne (withL_inj q))
  obtain ⟨z, hz, hn⟩ := fresh_one nd (ys := ys) (by rw [List.length_map, ltr_cps, List.length_range']; exact h)
  obtain ⟨c, hc, rfl⟩ := List.mem_map.mp hz
  exact ⟨c, hc, hn⟩
theorem chL_ofP {P : D → D → Prop} {S : Nat → Prop} (h : ∀ d e, P d e → ∃ c, S c ∧ e = .str ⟨#[c]⟩) : ∀ {ds es : List D}, A2 P ds es → ∃ cs : List Nat, es = chL cs ∧ ∀ c ∈ cs, S c
  | _, _, .nil => ⟨[], rfl, fun y hy => by cases hy⟩
  | _, _, .cons p r => by
    obtain ⟨c, hc, rfl⟩ := h _ _ p
    obtain ⟨cs, rfl, hn⟩ := chL_ofP h r
    exact ⟨c :: cs, rfl, fun y hy => by
      rcases List.mem_cons.mp hy with rfl | hy
      · exact hc
      · exact hn y hy⟩
theorem d_slice_s (x : PySem.Str) (lo hi : Option Int) (h : x.length ≤ 1000000) : sliceF (.str x) lo hi = some (.sh (.str (cutS x lo hi))) := if_pos h
theorem ix_sc (x : PySem.Str) {v : Int} (h : x.length ≤ 1000000) (h0 : 0 ≤ v) (h1 : v < x.cps.toList.length) : ∃ c ∈ x.cps.toList, ixF (.str x) (.int v) = some (.sh (.str ⟨#[c]⟩)) := by
  obtain ⟨c, hc, e⟩ := at_mem (xs := x.cps.toList) h0 h1
  exact ⟨c, hc, ix_s x v c h e⟩
theorem len_s {x : PySem.Str} (h : x.length ≤ 1000000) : lenF [.str x] = some (.sh (.int (x.cps.toList.length : Int))) := by
  rw [e_len_s, if_pos h, len_tl]
theorem at_0s (x : PySem.Str) (xs : List PySem.Str) : L2.atI (strL (x :: xs)) 0 = some (.str x) := L2.atI_nat (j := 0) rfl
end FE

namespace FE
open PySem PySem.Spec PyProof.Rows L2
/-! ### a talk's names -/
def Rise (xs : List PySem.Str) : Prop := xs.Pairwise fun a b => strLt a b = true
structure Tongue (s n : List PySem.Str) : Prop where
  ls : s.length ≤ 3
  ln : n.length ≤ 2
  ns : ∀ x ∈ s, IsNm x
  nn : ∀ x ∈ n, IsNm x
  rs : Rise s
  rn : Rise n
  dj : ∀ x ∈ n, x ∉ s
theorem rise_sort {xs : List PySem.Str} (h : xs.Nodup) : Rise (sortS xs) := by
  have nd : (sortS xs).Nodup := ((sortS_perm xs).nodup_iff).mpr h
  have pw := sortS_pw xs
  unfold Rise
  refine (nd.and pw).imp fun {a b} ⟨ne, le⟩ => ?_
  cases q : strLt a b with
  | true => rfl
  | false => exact absurd (strLt_anti q le) ne
theorem tongue_of {xs : List PySem.Str} (h : xs.Nodup) (hn : ∀ x ∈ xs, IsNm x) (k : Nat) (h3 : k ≤ 3) (h5 : xs.length ≤ k + 2) : Tongue (sortS (xs.take k)) (sortS (xs.drop k)) := by
  have p1 := sortS_perm (xs.take k)
  have p2 := sortS_perm (xs.drop k)
  have nd : (xs.take k ++ xs.drop k).Nodup := by rw [List.take_append_drop]; exact h
  obtain ⟨n1, n2, n3⟩ := List.nodup_append.mp nd
  refine ⟨by rw [p1.length_eq, List.length_take]; omega, by rw [p2.length_eq, List.length_drop]; omega, fun x hx => hn x (List.mem_of_mem_take (p1.mem_iff.mp hx)), fun x hx => hn x (List.mem_of_mem_drop (p2.mem_iff.mp hx)), rise_sort n1, rise_sort n2, fun x hx hy => ?_⟩
  exact n3 x (p1.mem_iff.mp hy) x (p2.mem_iff.mp hx) rfl
/-! ### the object -/
def regL (k : Nat) : List D := rngD 0 (2 ^ k)
def talkD (s n : List PySem.Str) (b : Int) : D := .obj "Talk" ["_sets", "_numbers", "_most", "_unknowns"] [.tup (strL s), .tup (strL n), .int b, .tup (regL s.length ++ strL n)]
theorem at_sets (s n : List PySem.Str) (b : Int) : atD "Talk" "_sets" (talkD s n b) = some (.tup (strL s)) := by
  unfold talkD
  rw [e_atD]
  rfl
theorem at_numbers (s n : List PySem.Str) (b : Int) : atD "Talk" "_numbers" (talkD s n b) = some (.tup (strL n)) := by
  unfold talkD
  rw [e_atD]
  rfl
theorem at_most (s n : List PySem.Str) (b : Int) : atD "Talk" "_most" (talkD s n b) = some (.int b) := by
  unfold talkD
  rw [e_atD]
  rfl
theorem at_unknowns (s n : List PySem.Str) (b : Int) : atD "Talk" "_unknowns" (talkD s n b) = some (.tup (regL s.length ++ strL n)) := by
  unfold talkD
  rw [e_atD]
  rfl
theorem isO_talk (s n : List PySem.Str) (b : Int) (m : PySem.Str) (h : (m ∉ (["_sets", "_numbers", "_most", "_unknowns"] : List PySem.Str)) := by decide +kernel) : isO "Talk" m (talkD s n b) = true := by
  unfold talkD
  rw [e_isO]
  exact decide_eq_true h
/-! ### what can be judged -/
def isB : D → Bool
  | .obj _ _ _ => false
  | .dev _ _ => false
  | .wtp _ => false
  | _ => true
theorem isi_B {d : D} (h : isB d = true) (t : Ty) : ∃ b, isiF t d = some (.sh (.bl b)) := by
  unfold isiF bR
  cases d <;> first | cases h | skip
  all_goals cases t <;> exact ⟨_, rfl⟩
theorem isB_ints : ∀ {ns : List Int} {d : D}, d ∈ intsL ns → isB d = true := by
  intro ns d h
  obtain ⟨i, _, rfl⟩ := List.mem_map.mp h
  rfl
theorem isiF_tup (ds : List D) : isiF .tuple (.tup ds) = some (.sh (.bl true)) := rfl
theorem isiF_tupN {d : D} (h : isB d = true) (hn : ∀ ds, d ≠ .tup ds) : isiF .tuple d = some (.sh (.bl false)) := by
  cases d with
  | obj c ns ds => cases h
  | dev j x => cases h
  | wtp ds => cases h
  | tup ds => exact absurd rfl (hn ds)
  | _ => rfl
/-- a whole number between the bounds -/
def wholeIn (a b : Int) : D → Bool
  | .int i => decide (a ≤ i) && decide (i ≤ b)
  | _ => false
theorem bols_map (f : D → Bool) : ∀ ds : List D, bolsD (ds.map fun d => .bl (f d)) = some (ds.map f)
  | [] => rfl
  | d :: ds => by
    show bolsD (.bl (f d) :: ds.map fun d => .bl (f d)) = _
    unfold bolsD
    rw [bols_map f ds]
    rfl
theorem all_map (f : D → Bool) (ds : List D) : bolF (fun bs => bs.all id) [.lst (ds.map fun d => .bl (f d))] = some (.sh (.bl (ds.all f))) := by
  unfold bolF
  dsimp only
  rw [bols_map]
  show some (R.sh (D.bl ((ds.map f).all id))) = _
  congr 3
  rw [List.all_map]
  rfl
theorem any_map (f : D → Bool) (ds : List D) : bolF (fun bs => bs.any id) [.lst (ds.map fun d => .bl (f d))] = some (.sh (.bl (ds.any f))) := by
  unfold bolF
  dsimp only
  rw [bols_map]
  show some (R.sh (D.bl ((ds.map f).any id))) = _
  congr 3
  rw [List.any_map]
  rfl
/-- of whole numbers only -/
theorem wholes_ints {a b : Int} : ∀ {ds : List D}, ds.all (wholeIn a b) = true → ∃ ns, ds = intsL ns ∧ ∀ y ∈ ns, a ≤ y ∧ y ≤ b
  | [], _ => ⟨[], rfl, fun y hy => by cases hy⟩
  | d :: ds, h => by
    rw [List.all_cons, Bool.and_eq_true] at h
    obtain ⟨ns, e, hn⟩ := wholes_ints h.2
    have h1 := h.1
    cases d <;> try cases h1
    rename_i i
    unfold wholeIn at h1
    dsimp only at h1
    rw [Bool.and_eq_true, decide_eq_true_iff, decide_eq_true_iff] at h1
    refine ⟨i :: ns, by rw [e]; rfl, fun y hy => ?_⟩
    rcases List.mem_cons.mp hy with rfl | hy
    · exact h1
    · exact hn y hy
theorem ints_wholes {a b : Int} : ∀ {ns : List Int}, (∀ y ∈ ns, a ≤ y ∧ y ≤ b) → (intsL ns).all (wholeIn a b) = true
  | [], _ => rfl
  | n :: ns, h => by
    show (wholeIn a b (.int n) && (intsL ns).all (wholeIn a b)) = true
    rw [ints_wholes fun y hy => h y (List.mem_cons_of_mem _ hy), Bool.and_true]
    have := h n List.mem_cons_self
    unfold wholeIn
    simp [this.1, this.2]
theorem d_pow_7 : powF (.int 10) (.int 7) = some (.sh (.int 10000000)) := by
  unfold powF
  dsimp only
  rw [if_pos (by decide +kernel)]
  rfl
theorem rng_6 : rngD 0 6 = [.int 0, .int 1, .int 2, .int 3, .int 4, .int 5] := rfl
end FE

namespace FE
open PySem PySem.Spec PyProof.Rows L2
/-! ### recursion: at depth 0 nothing is told -/
theorem fnG_bad {P : Program} {w : World} {K : PySem.W.Frag} {mg : PySem.Str → Option Value} {base : Heap} {k : Nat} {f : Addr} {fd : FuncData} {ps : List PySem.Str} {G : Gd} {C : PySem.Str → Value → Prop} {np : Nat} {io : Option Nat} (h : ps.length = np) :
    FnG P w K mg base k f fd ps (spF G C np io (fun _ => .bad)) := by
  refine ⟨fun vs H Q E hs => ?_, fun A outer s H args us vs Q E _ _ _ _ _ hs => ?_⟩
  · obtain ⟨_, _, _, h1, _⟩ := hs
    exact h1.trans h.symm
  · obtain ⟨_, _, _, _, _, h3⟩ := hs
    exact h3.elim
end FE

namespace FE
open PySem PySem.Spec PyProof.Rows L2
/-! ### t.index(z), t a tuple of flat values -/
def tyTup (K : PySem.W.Frag) (x : V) (H : Hp) : Prop := ∃ p vs, x = .ref p ∧ NdT K H p vs
theorem ty_tup {X : Cx} : TyOk X "tuple" (tyTup X.K) := by
  intro pins σ H s x v I r ty
  obtain ⟨p, vs, rfl, h⟩ := ty
  cases r
  rcases h with ⟨o, h, hd⟩ | ⟨o, its, n, h1, h2, h3, _⟩
  · obtain ⟨e1, _, its, _, o2, e2, c2, _⟩ := I.hok p _ h
    rw [e1] at e2
    cases e2
    refine ⟨⟨o, e1, c2⟩, fun a e => ?_⟩
    cases e
    exact ⟨o, e1, hd⟩
  · refine ⟨⟨o, I.kIn p o h1, h2⟩, fun a e => ?_⟩
    cases e
    exact ⟨o, I.kIn _ o h1, h3⟩
theorem mt_tupIx {X : Cx} : MtR X "tuple.index" (fun x xs H Q => ∃ (p : Addr) (ys : List V) (z : PySem.Str) (j : Nat) (y0 : V), x = .ref p ∧ xs = [.str z] ∧ SqT X.K H p ys ∧ ys.all flatV = true ∧ ys[j]? = some y0 ∧ eqV y0 (.str z) = true ∧
    (∀ m y, m < j → ys[m]? = some y → eqV y (.str z) = false) ∧ Q (.int (j : Nat)) H) := by
  intro pins s σ H x xs v us Q I rx rs h
  obtain ⟨p, ys, z, j, y0, rfl, rfl, hq, hf, hy, he, hno, q⟩ := h
  cases rx
  obtain ⟨u, rfl, t, rfl⟩ := vals1 rs
  obtain ⟨its, r, pl, hz⟩ := I.tuple hq
  obtain ⟨⟨cls, dd, dt, sl⟩, ho, hc, n, hd⟩ := pl
  simp only at hc hd
  subst hc
  subst hd
  have hl : its.toArray.size = ys.length := by rw [List.size_toArray, ← r.length]
  have hj : j < its.toArray.size := by rw [hl]; exact (List.getElem?_eq_some_iff.mp hy).1
  have at' : ∀ (m : Nat) (hm : m < its.toArray.size), ∃ y, ys[m]? = some y ∧ RelV y its.toArray[m] ∧ flatV y = true := fun m hm => by
    have hm' : m < ys.length := by rw [← hl]; exact hm
    obtain ⟨w, hw, rw'⟩ := r.get (i := m) (x := ys[m]) (by simp [hm'])
    refine ⟨ys[m], List.getElem?_eq_getElem hm', ?_, List.all_eq_true.mp hf _ (List.getElem_mem hm')⟩
    have e := (List.getElem?_eq_some_iff.mp hw).2
    rw [← e] at rw'
    simpa using rw'
  refine call_meets PySem.F.slot_tuple_index ⟨_, ho, rfl⟩ PySem.F.entry_tuple_index (PySem.F.args_tuple_index_2 _ _) (TI.tuple_indexAt p its.toArray n dd sl (.str z t) (eqU (.str z)) j hj ?_ ?_)
    ⟨ho, fun w hw => mem_eqAt (x := .str z) ⟨t, rfl⟩ rfl r hf w (by simpa using hw), ⟨.int (j : Nat), H, I.tok _, ⟨_, rfl⟩, q⟩⟩
  · obtain ⟨y, h1, h2, h3⟩ := at' j hj
    rw [hy] at h1
    cases h1
    rw [eqU_of h2 h3]
    exact he
  · intro m hm hmj
    obtain ⟨y, h1, h2, h3⟩ := at' m hm
    rw [eqU_of h2 h3]
    exact hno m y hmj h1
def isStr (z : PySem.Str) : D → Bool
  | .str x => x == z
  | _ => false
def ixOf (z : PySem.Str) : List D → Option Nat
  | [] => none
  | d :: ds => if isStr z d = true then some 0 else (ixOf z ds).map (· + 1)
theorem ixOf_some {z : PySem.Str} : ∀ {ds : List D} {j : Nat}, ixOf z ds = some j → (∃ d, ds[j]? = some d ∧ isStr z d = true) ∧ ∀ m d, m < j → ds[m]? = some d → isStr z d = false
  | [], j, h => by cases h
  | d :: ds, j, h => by
    unfold ixOf at h
    by_cases c : isStr z d = true
    · rw [if_pos c] at h
      cases h
      exact ⟨⟨d, rfl, c⟩, fun m d h => absurd h (Nat.not_lt_zero m)⟩
    · rw [if_neg c] at h
      cases q : ixOf z ds with
      | none => rw [q] at h; cases h
      | some k =>
        rw [q] at h
        cases h
        obtain ⟨⟨d', h1, h2⟩, h3⟩ := ixOf_some q
        refine ⟨⟨d', by simpa using h1, h2⟩, fun m e hm he => ?_⟩
        cases m with
        | zero =>
          cases he
          exact Bool.eq_false_iff.mpr c
        | succ m => exact h3 m e (Nat.lt_of_succ_lt_succ hm) (by simpa using he)
def tIxK (d : D) (ds : List D) (e : FE.Env) : OE := match d, ds with
  | .tup xs, [.str z] => if xs.all flatD = true then match ixOf z xs with
    | some j => .ok (.sh (.int (j : Nat))) e
    | none => .bad
    else .bad
  | _, _ => .bad
def isT : D → Bool
  | .tup _ => true
  | _ => false
def oTix (oo : FE.Env → OE) (oa : FE.Env → OA) : FE.Env → OE := fun env => (oo env).bind fun r e0 => if isT r.fz = true then (oa e0).bindE fun ds e1 => tIxK r.fz ds e1 else .bad
section
variable {X : Cx} {Z : Zd} {o e : Expr} {oo : FE.Env → OE} {oa : FE.Env → OE} {apos cpos : Pos}
theorem n_tix (hK : Z.G.K = X.K) (ho : PE X o (tE Z oo)) (ha : PE X e (tE Z oa))
    (hbase : attributeBase o "index" X.env (eval o X.env) = eval o X.env := by rfl)
    (hfew : ((backTo cpos (starEach [e] X.env)).all (fun x => !x.1) && (backToKw cpos (keywordEach [] X.env)).all (fun x => x.1.isSome)
      && decide ([e].length + ([] : List Keyword).length + (if ([] : List Keyword).isEmpty then 0 else 1) < 30)) = true := by rfl)
    (hline : (apos.endLine == cpos.line) = true := by rfl) (hs : starEach [e] X.env = (false, eval e X.env) :: starEach [] X.env := by rfl) :
    PE X (.Call (.Attribute o "index" apos) [e] [] cpos) (tE Z (oTix oo (oCons oa oNil))) := by
  refine PE.imp (pe_mG ty_tup PySem.F.plainAttrs_tuple PySem.F.slot_tuple_index PySem.F.type_tuple_index mt_tupIx ho (pa_cons ha pa_nil hs) (hbase := hbase) (hfew := hfew) (hline := hline) (hs := hs)) fun σ H Q ⟨F, env, g, h⟩ => ?_
  refine seqE g h fun r1 env1 v1 H1 F1 g1 x1 rp1 h1 => ?_
  split at h1
  case isFalse => exact h1.elim
  rename_i ht
  generalize r1.fz = d at h1 rp1 ht
  cases d <;> first | cases ht | skip
  rename_i xs
  cases rp1 with
  | @tup p vs ds' n1 n2 =>
    rw [← hK]
    refine ⟨⟨p, vs, rfl, g1.fh.nd n1⟩, ?_⟩
    have h1' : PostE Z F1 σ Q ((oa env1).bind fun r e => tIxK (.tup xs) [r.fz] e) := by
      unfold oCons oNil at h1
      cases q : oa env1 with
      | ok r e1 => rw [q] at h1; exact h1
      | exc x e1 => rw [q] at h1; exact h1
      | bad => rw [q] at h1; exact h1
    refine seqE g1 h1' fun r2 env2 v2 H2 F2 g2 x2 rp2 h2 => ?_
    generalize r2.fz = d2 at h2 rp2
    unfold tIxK at h2
    split at h2
    case h_2 => exact h2.elim
    rename_i xs' z q1 q2
    cases q1
    cases q2
    cases rp2
    split at h2
    case isFalse => exact h2.elim
    rename_i hf
    cases qi : ixOf z xs with
    | none => rw [qi] at h2; exact h2.elim
    | some j =>
      rw [qi] at h2
      obtain ⟨⟨d, k1, k2⟩, k3⟩ := ixOf_some qi
      obtain ⟨e1, f1⟩ := n2.fv hf
      have key : ∀ (b : Bool) d, isStr z d = b → eqV d.fv (.str z) = b := by
        intro b d h
        cases d <;> exact h
      refine ⟨p, vs, z, j, d.fv, rfl, rfl, g2.fh.t (x2.t n1.t), f1, by rw [e1, List.getElem?_map, k1]; rfl, key _ _ k2, fun m y hm hy => ?_, h2 _ H2 F2 g2 (Ex.refl F2) (.int _)⟩
      rw [e1, List.getElem?_map] at hy
      cases q3 : xs[m]? with
      | none => rw [q3] at hy; cases hy
      | some d' =>
        rw [q3] at hy
        cases hy
        exact key _ _ (k3 m d' hm q3)
end
end FE

namespace FE
open PySem PySem.Spec PyProof.Rows L2
/-! ### len(x) by an own __len__ -/
def rLenO (C : Addr) (sp : Sp) : List V → Hp → VK → Prop := fun xs H Q => ∃ a dx fs, xs = [.ref a] ∧ H a = some (.ins C dx fs) ∧ sp [.ref a] H (fun v H' => ∃ i : Int, v = .int i ∧ 0 ≤ i ∧ i < 2 ^ 63 ∧ Q (.int i) H') (fun _ _ _ => False)
theorem call_lenO {X : Cx} {C : Addr} {k : Nat} {sp : Sp} (cm : CalM X.prog X.w X.K X.mg X.base k C "__len__" 1 sp) (hx : RoomX (k + 1) X) : CallR X (.builtin "len") (rLenO C sp) := by
  intro pins s σ H xs us Q I r h
  obtain ⟨a, dx, fs, rfl, ea, q⟩ := h
  obtain ⟨u, rfl, ru⟩ := vals1 r
  obtain rfl : u = Value.ref a := ru
  obtain ⟨f, fd, ps, hm, F, hb⟩ := cm.ex
  obtain ⟨mA, O, _⟩ := ins_get I.hok ea
  obtain ⟨od, J, _⟩ := O.look
  refine Calls.call_function_entry PySem.kind_len PySem.plain_len PySem.entry_len (PySem.args_len1 _) ?_
  unfold Builtin.«len»
  refine wpAny_bind (m := oneArg "len" _) (wpAny_pure ?_)
  have bt := hb.to s [.ref a] [] I.kIn rfl rfl
  refine wpAny_bind (m := callSpecial? (.ref a) (PySem.Str.ofString "__len__")) (PySem.W.special_fn I.kIn J hm.at_ (beq_iff_eq.mp hm.fn) (wpAny_call (codeAny_mono (F.run _ X.stack s H ⟨[.ref a], []⟩ [.ref a] [.ref a] _ _ hx.r.in1 hx.g I.env0.in1 bt (.cons rfl .nil) q) ?_)))
  intro r s' hq
  cases r with
  | error e =>
    obtain ⟨_, _, _, _, _, _, _, _, _, _, _, _, _, _, _, _, w⟩ := XE.of_call (W := fun _ _ _ _ => False) I (fun _ _ _ z => z) hq
    exact w.elim
  | ok fl =>
    cases fl with
    | ret u =>
      obtain ⟨v, H', I', rv, i, ev, i0, i1, qq⟩ := I.after hq
      subst ev
      obtain ⟨t, rfl⟩ := (show ∃ t, u = Value.int i t from rv)
      refine wpAny_bind (wpAny_holding (wpAny_pure ?_))
      refine wpAny_bind (wpAny_letGo ?_)
      show wpAny _ _ (if i < 0 then _ else _) _ _ _
      rw [if_neg (by omega)]
      show wpAny _ _ (if i ≥ 2 ^ 63 then _ else _) _ _ _
      rw [if_neg (by omega)]
      exact wpAny_bind (wpAny_mkInt (wpAny_pure ⟨_, rfl, .int i, H', I'.tok _, ⟨_, rfl⟩, qq⟩))
    | next => exact False.elim hq
    | brk => exact False.elim hq
    | cont => exact False.elim hq
def lenC (o : OC) (e : FE.Env) : OE := match o with
  | .ret (.sh (.int i)) _ => if 0 ≤ i ∧ i < 2 ^ 63 then .ok (.sh (.int i)) e else .bad
  | _ => .bad
def oLenO (c : PySem.Str) (f : List D → OC) (oo : FE.Env → OE) : FE.Env → OE := fun env => (oo env).bind fun r e => if isO c "__len__" r.fz = true then lenC (f [r.fz]) e else .bad
section
variable {X : Cx} {Z : Zd} {k : Nat} {f : List D → OC} {o : Expr} {oo : FE.Env → OE} {C : Addr} {c : PySem.Str} {p pos : Pos}
theorem n_lenO (hg : Z.G.mg c = some (.ref C)) (cm : CalM X.prog X.w X.K X.mg X.base k C "__len__" 1 (spF Z.G Z.C 1 none f)) (hx : RoomX (k + 1) X) (hm : X.mg "len" = none) (ho : PE X o (tE Z oo))
    (hgl : Gl X "len" := by rfl) (he : starEach [o] X.env = (false, eval o X.env) :: starEach [] X.env := by rfl) : PE X (.Call (.Name "len" p) [o] [] pos) (tE Z (oLenO c f oo)) := by
  refine PE.imp (pe_callB (call_lenO cm hx) hgl hm PySem.boot_len (pa_cons ho pa_nil he) (he := he)) fun σ H Q ⟨F, env, g, h⟩ => ?_
  refine seqE g h fun r1 env1 v1 H1 F1 g1 x1 rp1 h1 => ?_
  split at h1
  case isFalse => exact h1.elim
  rename_i hi
  obtain ⟨ns, ds, ed, hn⟩ := isO_obj hi
  rw [ed] at rp1 h1
  cases rp1 with
  | @obj a C' dx c ns' vs ds' e1 e2 e3 e4 e5 =>
    have ec : C' = C := by
      rw [hg] at e3
      cases e3
      rfl
    subst ec
    refine ⟨a, dx, _, rfl, g1.fh _ _ e1, F1, [.obj c ns ds], [], rfl, argsOk_all g1.fh (.cons (Rep.obj e1 e2 e3 e4 e5) .nil), ?_⟩
    unfold lenC at h1
    split at h1
    case h_2 => exact h1.elim
    rename_i i out q
    split at h1
    case isFalse => exact h1.elim
    rename_i hr
    rw [q]
    intro v H' F' b rr
    cases rr
    exact ⟨i, rfl, hr.1, hr.2, h1 (.int i) H' F' (g1.callee b (fun a h => by cases h) (fun a h => by cases h)) b.ff (.int i)⟩
end
theorem e_lenO (c : PySem.Str) (f : List D → OC) (oo : FE.Env → OE) (env : FE.Env) : oLenO c f oo env = (oo env).bind fun r e => if isO c "__len__" r.fz = true then lenC (f [r.fz]) e else .bad := (rfl)
theorem e_lenC (i : Int) (out : List D) (e : FE.Env) : lenC (.ret (.sh (.int i)) out) e = if 0 ≤ i ∧ i < 2 ^ 63 then .ok (.sh (.int i)) e else .bad := (rfl)
theorem e_tix (oo : FE.Env → OE) (oa : FE.Env → OA) (env : FE.Env) : oTix oo oa env = (oo env).bind fun r e0 => if isT r.fz = true then (oa e0).bindE fun ds e1 => tIxK r.fz ds e1 else .bad := (rfl)
theorem e_isT (ds : List D) : isT (.tup ds) = true := (rfl)
theorem e_tIxK (xs : List D) (z : PySem.Str) (e : FE.Env) : tIxK (.tup xs) [.str z] e = if xs.all flatD = true then match ixOf z xs with
    | some j => .ok (.sh (.int (j : Nat))) e
    | none => .bad
    else .bad := (rfl)
end FE

namespace FE
open PySem PySem.Spec PyProof.Rows L2
/-! ### xs[i] += n, xs one's own -/
theorem pget_list {X : Cx} : PGet X (rIxL X.K) := by
  intro pins s σ H x y v u Q I rx ry h
  obtain ⟨p, xs, i, z, rfl, rfl, hq, he, q⟩ := h
  cases rx
  obtain ⟨t, rfl⟩ := ry
  obtain ⟨its, r, pl, hz⟩ := I.list hq
  obtain ⟨j, h1, h2, h3, h4, h5⟩ := atI_get he
  obtain ⟨w, ew, rw'⟩ := r.get h2
  have hl := r.length
  have hn := line63
  have fin : EP X pins σ Q w s := ⟨z, H, I, rw', q⟩
  by_cases h0 : 0 ≤ i
  · have hj : i.toNat = j := by
      rw [seqIndex_of h0 h5] at h1
      exact Option.some.inj h1
    exact wpAny_getItem_list pl.isList h0 (by omega) (by rw [hj]; simpa using ew) fin
  · have hj : (i + (its.toArray.size : Int)).toNat = j := by
      rw [seqIndex_neg (by omega) h4] at h1
      rw [List.size_toArray, ← hl]
      exact Option.some.inj h1
    exact wpAny_getItem_list_neg pl.isList (by omega) (by rw [List.size_toArray] <;> omega) (by omega) (by rw [hj]; simpa using ew) fin
def augJ (i : Nat) (v : D) (e : FE.Env) (ds : List D) : Option Nat → OS
  | some j => nxO (setOwn e i (ds.set j v))
  | none => .bad
def augO (i : Nat) (k : Int) (v : D) (e : FE.Env) : Option (List D) → OS
  | some ds => augJ i v e ds (ixN ds.length k)
  | none => .bad
def augD (i : Nat) (k x : Int) (e2 : FE.Env) : D → OS
  | .int y => augO i k (.int (x + y)) e2 (e2[i]?.bind Own)
  | _ => .bad
def augK2 (i : Nat) (k x : Int) (rv : R) (e2 : FE.Env) : OS := augD i k x e2 rv.fz
def augA (i : Nat) (k : Int) (ov : FE.Env → OE) (e1 : FE.Env) : Option D → OS
  | some (.int x) => (ov e1).bindS (augK2 i k x)
  | _ => .bad
def augL (i : Nat) (k : Int) (ov : FE.Env → OE) (e1 : FE.Env) : Option (List D) → OS
  | some ds => augA i k ov e1 (L2.atI ds k)
  | none => .bad
def augC (i : Nat) (ov : FE.Env → OE) (e1 : FE.Env) : D → OS
  | .int k => augL i k ov e1 (e1[i]?.bind Own)
  | _ => .bad
def augK1 (i : Nat) (ov : FE.Env → OE) (ri : R) (e1 : FE.Env) : OS := augC i ov e1 ri.fz
def augB (i : Nat) (oi ov : FE.Env → OE) (env : FE.Env) : Bool → OS
  | true => (oi env).bindS (augK1 i ov)
  | false => .bad
def sAugI (i : Nat) (oi ov : FE.Env → OE) : FE.Env → OS := fun env => augB i oi ov env (here env[i]?)
theorem e_aug (i : Nat) (oi ov : FE.Env → OE) (env : FE.Env) : sAugI i oi ov env = augB i oi ov env (here env[i]?) := (rfl)
theorem e_augB (i : Nat) (oi ov : FE.Env → OE) (env : FE.Env) : augB i oi ov env true = (oi env).bindS (augK1 i ov) := (rfl)
theorem e_augK1 (i : Nat) (ov : FE.Env → OE) (ri : R) (e1 : FE.Env) : augK1 i ov ri e1 = augC i ov e1 ri.fz := (rfl)
theorem e_augC (i : Nat) (ov : FE.Env → OE) (e1 : FE.Env) (k : Int) : augC i ov e1 (.int k) = augL i k ov e1 (e1[i]?.bind Own) := (rfl)
theorem e_augL (i : Nat) (k : Int) (ov : FE.Env → OE) (e1 : FE.Env) (ds : List D) : augL i k ov e1 (some ds) = augA i k ov e1 (L2.atI ds k) := (rfl)
theorem e_augA (i : Nat) (k : Int) (ov : FE.Env → OE) (e1 : FE.Env) (x : Int) : augA i k ov e1 (some (.int x)) = (ov e1).bindS (augK2 i k x) := (rfl)
theorem e_augK2 (i : Nat) (k x : Int) (rv : R) (e2 : FE.Env) : augK2 i k x rv e2 = augD i k x e2 rv.fz := (rfl)
theorem e_augD (i : Nat) (k x : Int) (e2 : FE.Env) (y : Int) : augD i k x e2 (.int y) = augO i k (.int (x + y)) e2 (e2[i]?.bind Own) := (rfl)
theorem e_augO (i : Nat) (k : Int) (v : D) (e : FE.Env) (ds : List D) : augO i k v e (some ds) = augJ i v e ds (ixN ds.length k) := (rfl)
theorem e_augJ (i : Nat) (v : D) (e : FE.Env) (ds : List D) (j : Nat) : augJ i v e ds (some j) = nxO (setOwn e i (ds.set j v)) := (rfl)
section
variable {X : Cx} {Z : Zd} {a b : Expr} {oa ob : FE.Env → OE} {pos : Pos}
theorem n_augI (i : Nat) {x : PySem.Str} {p tp : Pos} (hK : Z.G.K = X.K) (hb : PE X b (tE Z ob)) (ha : PE X a (tE Z oa)) (hN : X.N[i]? = some x := by rfl) (hv : Vis X.env.scope x := by first | exact Or.inl rfl | exact Or.inr (Or.inl rfl) | exact Or.inr (Or.inr rfl)) (hd : (x == ("__debug__" : PySem.Str)) = false := by decide)
    (hcd : (x == ("__classdict__" : PySem.Str)) = false := by decide)
    (hg : ∀ ov iv new, augStore b ov iv new = (do holding [new, ov, iv] (setItem ov iv new); release [new, ov, iv] []; pure .next) := by intros; rfl) : PS X (.AugAssign (.Subscript (.Name x p) b tp) .Add a pos) (tS Z (sAugI i ob oa)) := by
  refine PS.imp (ps_augS (pe_var hN hv hd hcd) hb pget_list ha ip_add set_list hg) fun Dn σ H ⟨F, env, g, h⟩ => ?_
  unfold sAugI at h
  cases hh : here env[i]? with
  | false => rw [hh] at h; exact h.elim
  | true =>
    rw [hh] at h
    obtain ⟨u, hu⟩ := g.here hh
    refine ⟨u, hu, ?_⟩
    refine seqES g h fun ri env1 w H1 F1 g1 x1 r1 h1 => ?_
    obtain ⟨F2, g2, x2, r2⟩ := g1.give r1
    replace h1 := PostS.up x2 h1
    unfold augK1 at h1
    generalize ri.fz = d at h1 r2
    cases d <;> try exact h1.elim
    rename_i k
    cases r2
    unfold augC at h1
    cases ho : env1[i]?.bind Own with
    | none => rw [ho] at h1; exact h1.elim
    | some ds =>
      rw [ho] at h1
      obtain ⟨s, e1, e2⟩ := own_get ho
      obtain ⟨c, vs, q1, q2, q3, q4, q5⟩ := g2.ow i s ds e1 e2
      rw [hu] at q1
      cases q1
      unfold augL at h1
      dsimp only at h1
      cases hx : L2.atI ds k with
      | none => rw [hx] at h1; exact h1.elim
      | some xd =>
        rw [hx] at h1
        obtain ⟨xv, hxv, rx⟩ := q4.atI hx
        cases xd <;> try exact h1.elim
        rename_i x0
        cases rx
        refine ⟨c, vs, k, .int x0, rfl, rfl, .inl (.inl q2), hxv, ?_⟩
        have h1' : PostS Z F2 Dn ((oa env1).bindS (augK2 i k x0)) := h1
        refine seqES g2 h1' fun rv env3 w3 H3 F3 g3 x3 r3 h3 => ?_
        obtain ⟨F4, g4, x4, r4⟩ := g3.give r3
        replace h3 := PostS.up x4 h3
        unfold augK2 at h3
        generalize rv.fz = d3 at h3 r4
        cases d3 <;> try exact h3.elim
        rename_i y0
        cases r4
        unfold augD at h3
        dsimp only at h3
        cases ho3 : env3[i]?.bind Own with
        | none => rw [ho3] at h3; exact h3.elim
        | some ds3 =>
          rw [ho3] at h3
          unfold augO augJ at h3
          dsimp only at h3
          cases hj : ixN ds3.length k with
          | none => rw [hj] at h3; exact h3.elim
          | some j =>
            rw [hj] at h3
            dsimp only at h3
            cases he : setOwn env3 i (ds3.set j (.int (x0 + y0))) with
            | none => rw [he] at h3; exact h3.elim
            | some env5 =>
              rw [he] at h3
              obtain ⟨s3, e31, e32⟩ := own_get ho3
              obtain ⟨a3, vs3, p1, p2, p3, p4, p5⟩ := g4.ow i s3 ds3 e31 e32
              rw [hu] at p1
              cases p1
              refine ⟨x0, y0, rfl, rfl, c, vs3, k, j, rfl, rfl, p2, by rw [p4.length]; exact hj, ?_⟩
              exact h3 σ _ F4 (g4.wr e31 e32 hu p2 (p4.set (.int _) j) he) (Ex.refl F4)
end
end FE

namespace FE
open PySem PySem.Spec PyProof.Rows L2
/-! ### tuple(reversed(t)), t a tuple -/
section
open RT
variable {prog : Program} {w : World} {A : Around} {E : Value → Shared → Prop} {s : Shared}
theorem walks_rt (hh : A.handled = none) (I l : Addr) (hne : l ≠ I) (items : Array Value) (hn : items.size ≤ sizeLine) :
    WalksS prog w A I [I, l] [I] (fun a b => b = a) items.size (fun i v => items[items.size - 1 - i]? = some v) (fun i s => i ≤ items.size ∧ IsRt s.heap I l ((items.size : Int) - 1 - (i : Int)) ∧ IsTup s.heap l items) where
  sub := fun b hb => by simp at hb; simp [hb]
  grefl := fun _ => rfl
  gtrans := fun _ _ _ h1 h2 => h2.trans h1
  frame := fun _ _ _ _ x _ hk => ⟨x.1, x.2.1.at fun o e => hk I (by simp) o e, let ⟨o, ho, r⟩ := x.2.2; ⟨o, hk l (by simp) o ho, r⟩⟩
  item := fun i s Q E hi x hQ => by
    have e : (items.size : Int) - 1 - (i : Int) = ((items.size - 1 - i : Nat) : Int) := by omega
    have hit := x.2.1
    rw [e] at hit
    have hx : items[items.size - 1 - i]? = some (items[items.size - 1 - i]'(by omega)) := Array.getElem?_eq_getElem (by omega)
    refine next_rt_item hit x.2.2 hx hn fun h' hit' hs' => ?_
    have e2 : ((items.size - 1 - i : Nat) : Int) - 1 = (items.size : Int) - 1 - ((i + 1 : Nat) : Int) := by omega
    rw [e2] at hit'
    refine hQ _ _ hx ⟨hi, hit', ?_⟩ ?_
    · obtain ⟨o, ho, r⟩ := x.2.2
      exact ⟨o, (hs'.2 l hne).trans ho, r⟩
    · exact ⟨fun b o hb eo => hs'.extBut b o (fun h => hb (by simp [h])) eo, rfl, rfl, rfl, Nat.le_succ _⟩
  done := fun s Q E x hQ => by
    have e : (items.size : Int) - 1 - (items.size : Int) = -1 := by omega
    have hit := x.2.1
    rw [e] at hit
    exact next_rt_end hh hit fun h' eb => hQ _ ⟨fun b o hb eo => eb b o (fun h => hb (by simp [h])) eo, rfl, rfl, rfl, Nat.le_refl _⟩
  self := fun i s Q E x h => iter_rt x.2.1 h
theorem nolen_rt : typeLookup (.type "reversed") "__len__" = pure none := by rw [typeLookup_type, builtinLookup_eq_fast]; kernel_rfl
theorem hint_rt : typeLookup (.type "reversed") "__length_hint__" = pure (some (.builtin "reversed.__length_hint__")) := by rw [typeLookup_type, builtinLookup_eq_fast]; kernel_rfl
theorem slot_rt_hint : Slot "reversed" "__length_hint__" "reversed.__length_hint__" :=
  .of (owner := "reversed") (n := "__length_hint__") (by rw [typeLookup_type, builtinLookup_eq_fast]; kernel_rfl) (by decide +kernel) (by decide +kernel) (by decide +kernel)
    (by first | exact .inl (by decide +kernel) | exact .inr (by decide +kernel)) (by rw [isSubtype_type]; kernel_rfl)
theorem entry_rt_hint : entryFor table "reversed.__length_hint__" = some Builtin.«reversed.__length_hint__» := entryFor_of_tree (by kernel_rfl)
theorem args_rt_hint (a : Value) : argsOk "reversed.__length_hint__" ⟨[a], []⟩ := by
  unfold argsOk; rw [signature?_of (id := "reversed.__length_hint__") (n := ("__length_hint__" : String).toList.reverse) (o := ['d', 'e', 's', 'r', 'e', 'v', 'e', 'r']) (by kernel_rfl) owner_rt]; kernel_rfl
theorem hint_call {it t : Addr} {i : Int} {items : Array Value} {Q : Value → Shared → Prop} (hit : IsRt s.heap it t i) (ht : IsTup s.heap t items) (hsz : items.size ≤ sizeLine) (hi : i + 1 ≤ items.size)
    (h : ∀ tk tok, Q (.int (i + 1) tok) { s with toks := tk }) : wpAny (model prog w) A (call (.builtin "reversed.__length_hint__") [.ref it]) Q E s := by
  obtain ⟨o, ho, hc, hd⟩ := id hit
  have hs : sizeLine = 16777216 := sizeLine_eq
  refine wpAny_call_entry slot_rt_hint hit.typeIs entry_rt_hint ?_ (args_rt_hint _)
  unfold Builtin.«reversed.__length_hint__»
  refine wpAny_bind (wpAny_of_eq (a := Value.ref it) rfl ?_)
  refine wpAny_bind (wpAny_field ho hd (x := .ref t) rfl ?_)
  show wpAny _ _ (if (Value.ref t == Value.none) = true then _ else _) _ _ s
  rw [if_neg (by simp)]
  refine wpAny_bind (len_tuple ht (by omega) ?_)
  refine wpAny_bind (wpAny_of_eq (a := some (items.size : Int)) rfl ?_)
  try dsimp only
  refine wpAny_bind (wpAny_field (s := { s with toks := _ }) ho hd (x := rawInt i) rfl ?_)
  show wpAny _ _ (if ((items.size : Nat) : Int) < i + 1 then _ else _) _ _ _
  rw [if_neg (by omega)]
  exact wpAny_bind (wpAny_mkInt (wpAny_pure ⟨_, rfl, h _ _⟩))
theorem collect_rt {it l : Addr} {items : Array Value} {Q : List Value → Shared → Prop} (hh : A.handled = none) (hit : IsRt s.heap it l ((items.size : Int) - 1)) (hl : IsTup s.heap l items) (hne : l ≠ it) (hn : items.size ≤ sizeLine)
    (hQ : ∀ (h' : Heap) (tk : Nat) (acc : Array Value), (∀ b o, b ≠ it → s.heap.get? b = some o → h'.get? b = some o) → ItemsOf (fun i v => items[items.size - 1 - i]? = some v) acc items.size → Q acc.toList { s with heap := h', toks := tk }) :
    wpAny (model prog w) A (collect (.ref it)) Q E s := by
  have W := walks_rt (prog := prog) (w := w) (A := A.in1) hh it l hne items hn
  obtain ⟨oi, hoi, _⟩ := id hit
  obtain ⟨ol, hol, hlr⟩ := id hl
  have hSi : s.heap.objs.size ≠ it := Nat.ne_of_gt (Heap.lt_size hoi)
  have hSl : s.heap.objs.size ≠ l := Nat.ne_of_gt (Heap.lt_size hol)
  have hSf : s.heap.objs.size ∉ [it, l] := by simp only [List.mem_cons, List.not_mem_nil, or_false, not_or]; exact ⟨hSi, hSl⟩
  unfold collect
  refine wpAny_bind (wpAny_runValue (codeAny_builtin F.entry_proto_collect ?_))
  rw [Around.under_plainId F.plain_proto_collect _]
  show wpAny _ A.in1 (newList [] >>= fun l' => again (.builtin "list.__iadd__" ⟨[l', .ref it], []⟩)) _ _ s
  refine wpAny_bind (wpAny_newObj_type ?_)
  refine wpAny_pure ⟨plainId_quiet F.plain_list_iadd _, codeAny_builtin F.entry_list_iadd ?_⟩
  rw [Around.under_plainId F.plain_list_iadd _]
  have hS₁ : (s.heap.push { cls := .type "list", data := .seq ([] : List Value).toArray }).get? s.heap.objs.size = some { cls := .type "list", data := .seq ([] : List Value).toArray } := Heap.get?_push_size _ rfl
  have hit1 : IsRt (s.heap.push { cls := .type "list", data := .seq ([] : List Value).toArray }) it l ((items.size : Int) - 1) := hit.at fun o e => Heap.get?_push_of_some _ e
  have hl1 : IsTup (s.heap.push { cls := .type "list", data := .seq ([] : List Value).toArray }) l items := ⟨ol, Heap.get?_push_of_some _ hol, hlr⟩
  have hT : ({ s with heap := s.heap.push { cls := .type "list", data := .seq ([] : List Value).toArray } } : Shared).TypeIs (.ref it) "reversed" := IsRt.typeIs (s := { s with heap := s.heap.push { cls := .type "list", data := .seq ([] : List Value).toArray } }) hit1
  have h1 : Builtin.List.listSameRef (.ref s.heap.objs.size) (.ref it) = false := by simp [Builtin.List.listSameRef, hSi]
  show wpAny _ A.in1 (Builtin.List.listExtendWith (.ref s.heap.objs.size) (.ref it) (.ref s.heap.objs.size)) _ _ _
  unfold Builtin.List.listExtendWith
  refine wpAny_bind (wpAny_typeOf hT ?_)
  rw [if_neg (by rw [h1]; decide)]
  refine wpAny_bind (iter_rt (s := { s with heap := s.heap.push { cls := .type "list", data := .seq ([] : List Value).toArray } }) hit1 ?_)
  refine wpAny_bind (wpAny_holding ?_)
  unfold Builtin.List.listLengthHint
  refine wpAny_bind (wpAny_specialOf hT nolen_rt ?_)
  show wpAny _ A.in1 (specialOf (Value.ref it) (Str.ofString "__length_hint__") >>= _) _ _ _
  refine wpAny_bind (wpAny_specialOf hT hint_rt ?_)
  generalize hid : ("reversed.__length_hint__" : String) = id0
  wp_delta
  rw [show splitId id0 = some ("reversed", "__length_hint__") from by subst hid; decide +kernel]
  subst hid
  refine wpAny_bind (wpAny_isInstance (b := true) hT (by rw [isSubtype_type]; kernel_rfl) ?_)
  rw [if_neg (by decide)]
  try dsimp only
  rw [if_neg (by decide +kernel)]
  refine wpAny_bind (wpAny_rule ?_)
  refine wpAny_bind (wpAny_of_eq (slot_rt_hint.bind _) ?_)
  have hs : sizeLine = 16777216 := sizeLine_eq
  refine wpAny_bind (wpAny_attempt (hint_call hit1 hl1 hn (by omega) fun tk tok => ?_))
  try dsimp only
  refine wpAny_bind (wpAny_of_eq (a := some (((items.size : Nat) : Int) - 1 + 1)) rfl ?_)
  try dsimp only
  have fi : Builtin.List.listFitsIndex (((items.size : Nat) : Int) - 1 + 1) = true := by
    unfold Builtin.List.listFitsIndex
    rw [Bool.and_eq_true, decide_eq_true_iff, decide_eq_true_iff]
    omega
  have tl : Builtin.List.listTooLong (((items.size : Nat) : Int) - 1 + 1).toNat = false := by
    unfold Builtin.List.listTooLong
    rw [decide_eq_false_iff_not]
    omega
  rw [if_neg (by rw [fi]; decide)]
  rw [if_neg (by omega)]
  rw [if_neg (by rw [tl]; decide)]
  refine wpAny_pure ?_
  have e0 : ((items.size : Nat) : Int) - 1 - ((0 : Nat) : Int) = (items.size : Int) - 1 := by omega
  have ne_b : ∀ b o, s.heap.get? b = some o → b ≠ s.heap.objs.size := fun b o e => Nat.ne_of_lt (Heap.lt_size e)
  by_cases hz : items.size = 0
  · have e1 : (((items.size : Nat) : Int) - 1 + 1 != 0) = false := by
      rw [hz]
      rfl
    rw [e1, if_neg (by decide +kernel)]
    refine wpAny_pure ⟨plainId_quiet F.plain_extend_loop _, codeAny_extend_loopS W hn _ hSf _ items.size 0 _ _ _ rfl (Nat.zero_le _) ⟨Nat.zero_le _, by rw [e0]; exact hit1, hl1⟩ hS₁ (ItemsOf.nil _) fun s' acc' c' hm hS' hacc => ?_⟩
    show wpAny _ A (load s.heap.objs.size >>= _) _ _ s'
    refine wpAny_bind (wpAny_load hS' ?_)
    refine wpAny_pure ?_
    rw [Moved.eq_with hm]
    refine hQ s'.heap s'.toks acc' (fun b o hb e => hm.heap b o (fun hmem => ?_) (Heap.get?_push_of_some _ e)) hacc
    rcases List.mem_cons.mp hmem with e' | hmem
    · exact ne_b b o e e'
    · exact hb (List.mem_singleton.mp hmem)
  · have e1 : (((items.size : Nat) : Int) - 1 + 1 != 0) = true := by
      rw [bne_iff_ne]
      omega
    rw [e1, if_pos (by rfl)]
    refine wpAny_bind (wpAny_rule ?_)
    refine wpAny_bind ?_
    show wpAny _ A.in1 (updateSeq s.heap.objs.size (·.push .none) >>= fun _ => updateSeq s.heap.objs.size (·.pop)) _ _ _
    refine wpAny_bind (wpAny_updateSeq hS₁ rfl ?_)
    have hS₂ := Heap.get?_update_self (Obj.mapSeq (·.push Value.none)) hS₁ rfl
    refine wpAny_updateSeq hS₂ rfl ?_
    have hS₃ := Heap.get?_update_self (Obj.mapSeq (·.pop)) hS₂ rfl
    have oth : ∀ b o, b ≠ s.heap.objs.size → (s.heap.push { cls := .type "list", data := .seq ([] : List Value).toArray }).get? b = some o →
        (((s.heap.push { cls := .type "list", data := .seq ([] : List Value).toArray }).update s.heap.objs.size (Obj.mapSeq (·.push Value.none))).update s.heap.objs.size (Obj.mapSeq (·.pop))).get? b = some o :=
      fun b o hb e => (Heap.get?_update_other _ _ (Ne.symm hb)).trans ((Heap.get?_update_other _ _ (Ne.symm hb)).trans e)
    refine wpAny_pure ⟨plainId_quiet F.plain_extend_loop _, codeAny_extend_loopS W hn _ hSf _ items.size 0 _ _ _ rfl (Nat.zero_le _) ⟨Nat.zero_le _, by rw [e0]; exact hit1.at fun o e => oth it o (Ne.symm hSi) e, let ⟨o, ho, r⟩ := hl1; ⟨o, oth l o (Ne.symm hSl) ho, r⟩⟩ hS₃ (ItemsOf.nil _) fun s' acc' c' hm hS' hacc => ?_⟩
    show wpAny _ A (load s.heap.objs.size >>= _) _ _ s'
    refine wpAny_bind (wpAny_load hS' ?_)
    refine wpAny_pure ?_
    rw [Moved.eq_with hm]
    refine hQ s'.heap s'.toks acc' (fun b o hb e => hm.heap b o (fun hmem => ?_) (oth b o (ne_b b o e) (Heap.get?_push_of_some _ e))) hacc
    rcases List.mem_cons.mp hmem with e' | hmem
    · exact ne_b b o e e'
    · exact hb (List.mem_singleton.mp hmem)
theorem code_new_rt {it l : Addr} {items : Array Value} {Q₁ : Value → Shared → Prop} (hh : A.handled = none) (hit : IsRt s.heap it l ((items.size : Int) - 1)) (hl : IsTup s.heap l items) (hne : l ≠ it) (hn : items.size ≤ sizeLine)
    (h : ∀ (h' : Heap) (tk : Nat) (acc : Array Value), (∀ b o, b ≠ it → s.heap.get? b = some o → h'.get? b = some o) → ItemsOf (fun i v => items[items.size - 1 - i]? = some v) acc items.size →
      Q₁ (.ref h'.objs.size) { s with heap := h'.push { cls := .type "tuple", data := .seq acc }, toks := tk }) :
    codeAny (model prog w) A (.call (.builtin "tuple.__new__") ⟨[.type "tuple", .ref it], []⟩) (wants Q₁ E) s := by
  refine codeAny_of_tree ?_
  show wpAny _ A.in1 (do checkBuiltinCall "tuple.__new__" ⟨[.type "tuple", .ref it], []⟩; again (.builtin "tuple.__new__" ⟨[.type "tuple", .ref it], []⟩)) _ _ s
  refine wpAny_bind (wpAny_of_eq (F.newCall_tuple_1 _) (wpAny_pure ⟨plainId_quiet F.plain_tuple_new _, codeAny_builtin F.entry_tuple_new ?_⟩))
  rw [Around.under_plainId F.plain_tuple_new _]
  have hsub := sub_tuple_self
  have hinit := init_tuple_lookup
  have hmh := madeHere_tuple
  have hTI : s.TypeIs (.ref it) "reversed" := hit.typeIs
  have hh1 : A.in1.handled = none := hh
  wp_walk using wpAny_typeOf hTI, collect_rt (A := A.in1) hh1 hit hl hne hn
  intro h' tk acc hk hacc
  show wpAny _ _ (Builtin.Tuple.tupleExact acc.toList.toArray >>= fun v => ret v) _ _ _
  unfold Builtin.Tuple.tupleExact
  refine wpAny_bind (wpAny_newObj_type ?_ (by show acc.toList.toArray.size ≤ sizeLine; simp only [Array.toArray_toList]; rw [hacc.1]; exact hn))
  refine wpAny_pure ?_
  have e : acc.toList.toArray = acc := by simp
  rw [e]
  exact h h' tk acc hk hacc
theorem call_tuple_rt {it l : Addr} {items : Array Value} {Q : Value → Shared → Prop} (hh : A.handled = none) (hit : IsRt s.heap it l ((items.size : Int) - 1)) (hl : IsTup s.heap l items) (hne : l ≠ it) (hn : items.size ≤ sizeLine)
    (hQ : ∀ (h' : Heap) (tk : Nat) (acc : Array Value), (∀ b o, b ≠ it → s.heap.get? b = some o → h'.get? b = some o) → ItemsOf (fun i v => items[items.size - 1 - i]? = some v) acc items.size →
      Q (.ref h'.objs.size) { s with heap := h'.push { cls := .type "tuple", data := .seq acc }, toks := tk }) :
    wpAny (model prog w) A (call (.type "tuple") [.ref it]) Q E s := by
  refine callType_codes (Q₁ := fun obj s₁ => s₁.TypeIs obj "tuple" ∧ Q obj s₁) F.called_tuple (F.typeCall_tuple_1 _) F.entry_object_init
    (code_new_rt (A := A.in1) hh hit hl hne hn fun h' tk acc hk hacc => ⟨⟨_, Heap.get?_push_size _ rfl, rfl⟩, hQ h' tk acc hk hacc⟩) fun obj s₁ h₁ => ?_
  exact ⟨h₁.1, F.args_object_init_2 obj _, object_init_meets F.called_tuple.init.lookup F.called_tuple.made (by decide) prog w A.in1 _ s₁ ⟨h₁.1, rfl, h₁.2⟩⟩
end
section
open RT
variable {X : Cx}
def tTupRvN (K : PySem.W.Frag) (te : TE) : TE := fun σ H Q => te σ H fun v H1 => ∃ (a : Addr) (xs : List V), v = .ref a ∧ SqT K H1 a xs ∧ ∀ (q : Addr) (o : Obj), H1 q = none → o.dict = none → Q (.ref q) (upd H1 q (.frz o (.tup xs.reverse)))
theorem pe_tupRvN {e : Expr} {te : TE} {p p2 pos pos2 : Pos} (hc : X.calm = true) (hg : Gl X "tuple") (hm : X.mg "tuple" = none) (hg2 : Gl X "reversed") (hm2 : X.mg "reversed" = none) (he : PE X e te)
    (hs : starEach [e] X.env = (false, eval e X.env) :: starEach [] X.env := by rfl)
    (hs2 : starEach [.Call (.Name "reversed" p2) [e] [] pos2] X.env = (false, eval (.Call (.Name "reversed" p2) [e] [] pos2) X.env) :: starEach [] X.env := by rfl) :
    PE X (.Call (.Name "tuple" p) [.Call (.Name "reversed" p2) [e] [] pos2] [] pos) (tTupRvN X.K te) := by
  refine ⟨fun pins s σ H Q I h => ?_⟩
  refine Call_ (ld_blt I hg hm boot_tuple (PyProof.Rows.callWith_type1 (args_cons (Call_ (ld_blt I hg2 hm2 PyProof.Rows.boot_reversed (PyProof.Rows.callWith_type1 (args_cons (thn (he.run pins s σ H _ I h) fun u s1 ⟨v, H1, I1, r1, q1⟩ => args_nil ?_) hs) hs rfl))) hs2) hs2 rfl))
  obtain ⟨a, xs, ev, hq, q⟩ := q1
  subst ev
  obtain rfl : u = Value.ref a := r1
  obtain ⟨its, rv, p', hz⟩ := I1.tuple hq
  have hlv := rv.length
  have hn63 := line63
  refine call_reversed_tup p' (fun A E Q k => len_tuple p' (by simp only [List.size_toArray] <;> omega) k) (args_nil ?_)
  have k0 : ∀ b o, s1.heap.get? b = some o → (s1.heap.push (rtObj a ((its.toArray.size : Int) - 1))).get? b = some o := fun b o e => Heap.get?_push_of_some _ e
  have I2 : Inv X pins σ H1 { s1 with heap := s1.heap.push (rtObj a ((its.toArray.size : Int) - 1)), toks := s1.toks + 1 + 1 } := I1.kept (t' := s1.toks + 1 + 1) k0
  obtain ⟨f0, f1, f2, f3, f4, f5⟩ := I1.fpOk (H' := H1) (b := s1.heap.objs.size) (Nat.le_refl _) (I1.hok.fresh (Nat.le_refl _))
  obtain ⟨ol, hol, hlr⟩ := id p'
  have hne : a ≠ s1.heap.objs.size := Nat.ne_of_lt (Heap.lt_size hol)
  have hn : its.toArray.size ≤ sizeLine := by rw [List.size_toArray, ← rv.length]; exact hz
  refine call_tuple_rt (s := { s1 with heap := s1.heap.push (rtObj a ((its.toArray.size : Int) - 1)), toks := s1.toks + 1 + 1 }) (I1.ok.hd hc) ⟨_, Heap.get?_push_size _ rfl, rfl, rfl⟩ ⟨ol, k0 _ _ hol, hlr⟩ hne hn fun h' tk acc hk hi => ?_
  have I3 : Inv X pins σ H1 { s1 with heap := h', toks := tk } := I2.turned (t' := tk) (fun b o hb e => hk b o hb e) f0 f1 f3 f4 f5
  refine ⟨.ref h'.objs.size, _, I3.laid (t' := tk) (o := .frz { cls := .type "tuple", data := .seq acc } (.tup xs.reverse)) (fun c o e => Heap.get?_push_of_some _ e) (Nat.le_refl _) ⟨Heap.get?_push_size _ rfl, by rw [List.length_reverse]; exact hz, acc.toList, RT.vals_rev rv hi, ?_⟩, rfl, q _ _ (I3.hok.fresh (Nat.le_refl _)) rfl⟩
  rw [Array.toArray_toList]
  exact IsTup.new _ _
def tRvK (ds : List D) (e : FE.Env) : OE := match ds with
  | [.tup xs] => .ok (.sh (.tup xs.reverse)) e
  | _ => .bad
def oTupRv (os : FE.Env → OA) : FE.Env → OE := fun env => (os env).bindE tRvK
variable {Z : Zd} {a : Expr} {oa : FE.Env → OE} {p p2 pos pos2 : Pos}
theorem n_tupRv (hm : X.mg "tuple" = none) (hm2 : X.mg "reversed" = none) (hK : Z.G.K = X.K) (ha : PE X a (tE Z oa)) (hc : X.calm = true := by rfl) (hg : Gl X "tuple" := by rfl) (hg2 : Gl X "reversed" := by rfl) (na : starEach [a] X.env = (false, eval a X.env) :: starEach [] X.env := by rfl)
    (nb : starEach [.Call (.Name "reversed" p2) [a] [] pos2] X.env = (false, eval (.Call (.Name "reversed" p2) [a] [] pos2) X.env) :: starEach [] X.env := by rfl) :
    PE X (.Call (.Name "tuple" p) [.Call (.Name "reversed" p2) [a] [] pos2] [] pos) (tE Z (oTupRv (oCons oa oNil))) := by
  refine PE.imp (pe_tupRvN hc hg hm hg2 hm2 ha na nb) fun σ H Q ⟨F, env, g, h⟩ => ?_
  have h' : PostE Z F σ Q ((oa env).bind fun r e => tRvK [r.fz] e) := by
    unfold oTupRv oCons oNil at h
    cases e : oa env with
    | ok r e1 => rw [e] at h; exact h
    | exc x e1 => rw [e] at h; exact h
    | bad => rw [e] at h; exact h
  refine seqE g h' fun r1 env1 v1 H1 F1 g1 x1 rp1 h1 => ?_
  generalize r1.fz = d at h1 rp1
  unfold tRvK at h1
  split at h1
  case h_2 => exact h1.elim
  rename_i xs e
  cases e
  cases rp1 with
  | @tup b vs ds' n1 n2 =>
    rw [← hK]
    exact ⟨b, vs, rfl, g1.fh.t n1.t, fun q o hq ho => h1 (.ref q) _ _ (g1.layF hq) (Ex.new (g1.fresh hq)) (.tup (.new ho) (n2.reverse.mono (Ex.new (g1.fresh hq))))⟩
end
theorem e_tupRv (os : FE.Env → OA) (env : FE.Env) : oTupRv os env = (os env).bindE tRvK := (rfl)
theorem e_tRvK (xs : List D) (e : FE.Env) : tRvK [.tup xs] e = .ok (.sh (.tup xs.reverse)) e := (rfl)
end FE

namespace FE
open PySem PySem.Spec PyProof.Rows L2
/-! ### terms -/
inductive Tm where
  | nm (z : PySem.Str) | non | all | not (a : Tm) | bin (w : PySem.Str) (a b : Tm)
def Tm.enc : Tm → D
  | .nm z => .str z
  | .non => .tup [.str "none"]
  | .all => .tup [.str "all"]
  | .not a => .tup [.str "not", a.enc]
  | .bin w a b => .tup [.str w, a.enc, b.enc]
def IsOp (w : PySem.Str) : Prop := w = "and" ∨ w = "or" ∨ w = "but"
def Tm.ok (s : List PySem.Str) : Tm → Prop
  | .nm z => z ∈ s
  | .non => True
  | .all => True
  | .not a => a.ok s
  | .bin w a b => IsOp w ∧ a.ok s ∧ b.ok s
def Tm.deep : Tm → Nat
  | .nm _ => 0
  | .non => 0
  | .all => 0
  | .not a => a.deep + 1
  | .bin _ a b => max a.deep b.deep + 1
def opM (w : PySem.Str) (x y : Bool) : Bool := if w = "and" then x && y else if w = "or" then x || y else x && !y
theorem opM_and (x y : Bool) : opM "and" x y = (x && y) := rfl
theorem opM_or (x y : Bool) : opM "or" x y = (x || y) := rfl
theorem opM_but (x y : Bool) : opM "but" x y = (x && !y) := rfl
def Tm.holds (s : List PySem.Str) (r : Nat) : Tm → Bool
  | .nm z => r.testBit (s.idxOf z)
  | .non => false
  | .all => true
  | .not a => !(a.holds s r)
  | .bin w a b => opM w (a.holds s r) (b.holds s r)
/-! ### places -/
theorem flat_strL (s : List PySem.Str) : (strL s).all flatD = true := by
  rw [List.all_eq_true]
  intro d hd
  obtain ⟨x, _, rfl⟩ := List.mem_map.mp hd
  rfl
theorem ixOf_strs {z : PySem.Str} : ∀ {s : List PySem.Str}, z ∈ s → ixOf z (strL s) = some (s.idxOf z)
  | [], h => by cases h
  | x :: s, h => by
    show (if (x == z) = true then some 0 else (ixOf z (strL s)).map (· + 1)) = _
    rw [List.idxOf_cons]
    by_cases c : x = z
    · rw [if_pos (beq_iff_eq.mpr c), beq_iff_eq.mpr c]
      rfl
    · have hb : (x == z) = false := beq_eq_false_iff_ne.mpr c
      rw [if_neg (by rw [hb]; decide), hb]
      have hm : z ∈ s := (List.mem_cons.mp h).resolve_left fun e => c e.symm
      rw [ixOf_strs hm]
      rfl
theorem ixOf_skip {z : PySem.Str} (ds : List D) : ∀ (es : List D), (∀ e ∈ es, isStr z e = false) → ixOf z (es ++ ds) = (ixOf z ds).map (· + es.length)
  | [], _ => by
    show ixOf z ds = _
    cases ixOf z ds <;> rfl
  | e :: es, h => by
    show (if isStr z e = true then some 0 else (ixOf z (es ++ ds)).map (· + 1)) = _
    rw [if_neg (by rw [h e List.mem_cons_self]; decide), ixOf_skip ds es fun e he => h e (List.mem_cons_of_mem _ he)]
    cases ixOf z ds with
    | none => rfl
    | some j =>
      show some (j + es.length + 1) = some (j + (es.length + 1))
      rw [Nat.add_assoc]
theorem reg_int {k : Nat} {d : D} (h : d ∈ regL k) : ∃ i : Int, d = .int i := by
  unfold regL rngD at h
  obtain ⟨j, _, rfl⟩ := List.mem_map.mp h
  exact ⟨_, rfl⟩
theorem reg_len (k : Nat) : (regL k).length = 2 ^ k := by
  unfold regL
  rw [rng_len]
theorem ixOf_unk {z : PySem.Str} {k : Nat} {n : List PySem.Str} (h : z ∈ n) : ixOf z (regL k ++ strL n) = some (n.idxOf z + 2 ^ k) := by
  rw [ixOf_skip _ _ fun e he => by obtain ⟨i, rfl⟩ := reg_int he; rfl, ixOf_strs h, reg_len]
  rfl
theorem flat_unk (k : Nat) (n : List PySem.Str) : (regL k ++ strL n).all flatD = true := by
  rw [List.all_append, flat_strL, Bool.and_true, List.all_eq_true]
  intro d hd
  obtain ⟨i, rfl⟩ := reg_int hd
  rfl
/-! ### one bit -/
theorem bit_and (r k : Nat) : (Builtin.bitAnd (r : Int) ((2 ^ k : Nat) : Int) = 0) ↔ r.testBit k = false := by
  show (((r &&& 2 ^ k : Nat) : Int) = 0) ↔ _
  constructor
  · intro h
    have h0 : r &&& 2 ^ k = 0 := by omega
    have := congrArg (fun n => n.testBit k) h0
    simpa [Nat.testBit_and, Nat.testBit_two_pow] using this
  · intro h
    have h0 : r &&& 2 ^ k = 0 := by
      refine Nat.eq_of_testBit_eq fun i => ?_
      rw [Nat.testBit_and, Nat.testBit_two_pow, Nat.zero_testBit]
      by_cases e : k = i
      · subst e
        rw [h, Bool.false_and]
      · rw [decide_eq_false e, Bool.and_false]
    rw [h0]
    rfl
theorem bit_ne (r k : Nat) : neF (.int (Builtin.bitAnd (r : Int) ((2 ^ k : Nat) : Int))) (.int 0) = some (.sh (.bl (r.testBit k))) := by
  have h := bit_and r k
  show some (R.sh (.bl (! decide (Builtin.bitAnd (r : Int) ((2 ^ k : Nat) : Int) = 0)))) = _
  cases q : r.testBit k with
  | false => rw [decide_eq_true (h.mpr q)]; rfl
  | true => rw [decide_eq_false fun e => by rw [h.mp e] at q; cases q]; rfl
/-! ### rows: one place more -/
def addAt (row : List Int) (p : Nat) (c : Int) : List Int := row.set p (row.getD p 0 + c)
theorem addAt_len (row : List Int) (p : Nat) (c : Int) : (addAt row p c).length = row.length := List.length_set
theorem addAt_comm (row : List Int) (p q : Nat) (c d : Int) : addAt (addAt row p c) q d = addAt (addAt row q d) p c := by
  unfold addAt
  by_cases e : p = q
  · subst e
    by_cases l : p < row.length
    · have g1 : (row.set p (row.getD p 0 + c)).getD p 0 = row.getD p 0 + c := by simp [List.getD, l]
      have g2 : (row.set p (row.getD p 0 + d)).getD p 0 = row.getD p 0 + d := by simp [List.getD, l]
      rw [g1, g2, List.set_set, List.set_set]
      congr 1
      omega
    · have hs : ∀ v, row.set p v = row := fun v => List.set_eq_of_length_le (by omega)
      simp only [hs]
  · have e1 : (row.set p (row.getD p 0 + c)).getD q 0 = row.getD q 0 := by simp [List.getD, List.getElem?_set_ne e]
    have e2 : (row.set q (row.getD q 0 + d)).getD p 0 = row.getD p 0 := by simp [List.getD, List.getElem?_set_ne (Ne.symm e)]
    rw [e1, e2, List.set_comm _ _ e]
theorem foldl_comm1 {α β : Type} (f : β → α → β) (h : ∀ b x y, f (f b x) y = f (f b y) x) : ∀ (xs : List α) (b : β) (x : α), xs.foldl f (f b x) = f (xs.foldl f b) x
  | [], b, x => rfl
  | y :: xs, b, x => by
    show xs.foldl f (f (f b x) y) = f (xs.foldl f (f b y)) x
    rw [h b x y, foldl_comm1 f h xs (f b y) x]
theorem foldl_rev {α β : Type} (f : β → α → β) (h : ∀ b x y, f (f b x) y = f (f b y) x) : ∀ (xs : List α) (b : β), xs.reverse.foldl f b = xs.foldl f b
  | [], b => rfl
  | x :: xs, b => by
    rw [List.reverse_cons, List.foldl_append, foldl_rev f h xs b]
    show f (xs.foldl f b) x = xs.foldl f (f b x)
    rw [foldl_comm1 f h]
theorem foldl_swap {α β γ : Type} (f : β → α → β) (g : β → γ → β) (h : ∀ b x y, g (f b x) y = f (g b y) x) : ∀ (xs : List α) (b : β) (y : γ), g (xs.foldl f b) y = xs.foldl f (g b y)
  | [], _, _ => rfl
  | x :: xs, b, y => by
    show g (xs.foldl f (f b x)) y = xs.foldl f (f (g b y) x)
    rw [foldl_swap f g h xs, h]
def addAll (c : Int) (row : List Int) (ps : List Nat) : List Int := ps.foldl (fun r p => addAt r p c) row
theorem addAll_comm (row : List Int) (ps qs : List Nat) (c d : Int) : addAll d (addAll c row ps) qs = addAll c (addAll d row qs) ps := by
  unfold addAll
  induction qs generalizing row with
  | nil => rfl
  | cons q qs ih =>
    show qs.foldl _ (addAt (ps.foldl _ row) q d) = _
    rw [foldl_swap (fun r p => addAt r p c) (fun r q => addAt r q d) (fun b x y => addAt_comm b x y c d) ps row q]
    exact ih _
theorem addAll_len (c : Int) : ∀ (ps : List Nat) (row : List Int), (addAll c row ps).length = row.length
  | [], _ => rfl
  | p :: ps, row => (addAll_len c ps (addAt row p c)).trans (addAt_len row p c)
end FE

namespace FE
open PySem PySem.Spec PyProof.Rows L2
/-! ### what can be shown: small leaves, much of them -/
structure Show2 (d : D) (b n : Nat) : Prop where
  pl : d.plain = true
  sh : d.pyd.showable = true
  ls : d.pyd.leavesShort 120 = true
  bk : d.pyd.bulk ≤ b
  dp : d.pyd.depth ≤ n
theorem Show2.mono {d : D} {b n b' n' : Nat} (h : Show2 d b n) (hb : b ≤ b') (hn : n ≤ n') : Show2 d b' n' := ⟨h.pl, h.sh, h.ls, Nat.le_trans h.bk hb, Nat.le_trans h.dp hn⟩
theorem show2Int {i : Int} (h1 : -(10 ^ 33) ≤ i) (h2 : i ≤ 10 ^ 33) : Show2 (.int i) 0 0 := by
  have h : i.natAbs ≤ 10 ^ 33 := by omega
  have lg : i.natAbs.log2 < 119 := by
    by_cases z : i.natAbs = 0
    · rw [z]
      decide
    · exact (Nat.log2_lt z).mpr (Nat.lt_of_le_of_lt h (by decide +kernel))
  refine ⟨by simp only [D.plain], ?_, ?_, by simp only [D.pyd, PyData.bulk]; exact Nat.le_refl _, by simp only [D.pyd, PyData.depth]; exact Nat.le_refl _⟩
  · simp only [D.pyd, PyData.showable]
    exact decide_eq_true (by omega)
  · have e := int_text_length_le (a := i) (k := 119) (by decide) lg
    simp only [D.pyd, PyData.leavesShort, PyData.shown]
    refine decide_eq_true ?_
    rw [PySem.ofString_length]
    exact e
theorem show2Str {x : PySem.Str} (h : ∀ c ∈ x.cps.toList, c < 128) {b : Nat} (hl : x.cps.toList.length ≤ b) : Show2 (.str x) b 0 := by
  refine ⟨by simp only [D.plain], by simp only [D.pyd, PyData.showable], ?_, ?_, by simp only [D.pyd, PyData.depth]; exact Nat.le_refl _⟩
  · simp only [D.pyd, PyData.leavesShort]
    rw [List.all_eq_true]
    intro c hc
    have := h c hc
    exact decide_eq_true (Nat.lt_trans this (by decide))
  · simp only [D.pyd, PyData.bulk]
    rw [← Array.length_toList]
    exact hl
def Show2L (ds : List D) (b n : Nat) : Prop := plainL ds = true ∧ PyData.showableAll (pydL ds) = true ∧ PyData.leavesShortAll 120 (pydL ds) = true ∧ PyData.bulkAll (pydL ds) ≤ b ∧ PyData.depthAll (pydL ds) ≤ n
theorem show2Nil : Show2L [] 0 0 := ⟨by simp only [plainL], by simp only [pydL, PyData.showableAll], by simp only [pydL, PyData.leavesShortAll], by simp only [pydL, PyData.bulkAll]; omega, by simp only [pydL, PyData.depthAll]; omega⟩
theorem show2Cons {d : D} {ds : List D} {b n b' n' : Nat} (h : Show2 d b n) (t : Show2L ds b' n') : Show2L (d :: ds) (b + 1 + b') (max n n') := by
  obtain ⟨a1, a2, a3, a4, a5⟩ := t
  refine ⟨by simp only [plainL, h.pl, a1, Bool.and_self], by simp only [pydL, PyData.showableAll, h.sh, a2, Bool.and_self], by simp only [pydL, PyData.leavesShortAll, h.ls, a3, Bool.and_self], ?_, ?_⟩
  · simp only [pydL, PyData.bulkAll]
    have := h.bk
    omega
  · simp only [pydL, PyData.depthAll]
    have := h.dp
    omega
theorem show2All {b n : Nat} : ∀ {ds : List D}, (∀ d ∈ ds, Show2 d b n) → Show2L ds (ds.length * (b + 1)) n
  | [], _ => ⟨show2Nil.1, show2Nil.2.1, show2Nil.2.2.1, Nat.le_trans show2Nil.2.2.2.1 (Nat.zero_le _), Nat.le_trans show2Nil.2.2.2.2 (Nat.zero_le _)⟩
  | d :: ds, h => by
    have c := show2Cons (h d List.mem_cons_self) (show2All fun e he => h e (List.mem_cons_of_mem _ he))
    refine ⟨c.1, c.2.1, c.2.2.1, Nat.le_trans c.2.2.2.1 ?_, Nat.le_trans c.2.2.2.2 (by rw [Nat.max_self]; exact Nat.le_refl _)⟩
    rw [List.length_cons, Nat.succ_mul]
    omega
theorem Show2L.tup {ds : List D} {b n : Nat} (h : Show2L ds b n) : Show2 (.tup ds) b (n + 1) := by
  obtain ⟨a1, a2, a3, a4, a5⟩ := h
  exact ⟨by simp only [D.plain, a1], by simp only [D.pyd, PyData.showable, a2], by simp only [D.pyd, PyData.leavesShort, a3], by simp only [D.pyd, PyData.bulk]; exact a4, by simp only [D.pyd, PyData.depth]; omega⟩
theorem Show2L.lst {ds : List D} {b n : Nat} (h : Show2L ds b n) : Show2 (.lst ds) b (n + 1) := by
  obtain ⟨a1, a2, a3, a4, a5⟩ := h
  exact ⟨by simp only [D.plain, a1], by simp only [D.pyd, PyData.showable, a2], by simp only [D.pyd, PyData.leavesShort, a3], by simp only [D.pyd, PyData.bulk]; exact a4, by simp only [D.pyd, PyData.depth]; omega⟩
theorem repr_ok2 {d : D} {b n : Nat} (h : Show2 d b n) (hb : b ≤ 100000) (hn : n ≤ 60) : reprF [d] = some (.sh (.str d.pyd.shown)) := by
  have e : pyS d = some d.pyd := by
    have p := h.pl
    cases d <;> first | rfl | exact if_pos p | (simp only [D.plain] at p; cases p)
  have o : okShow d.pyd = true := by
    unfold okShow
    rw [h.sh, h.ls, decide_eq_true (show d.pyd.bulk ≤ 100000 from Nat.le_trans h.bk hb), decide_eq_true (show d.pyd.depth ≤ 60 from Nat.le_trans h.dp hn), show (true && true) = true from rfl, Bool.or_true]
    rfl
  unfold reprF
  dsimp only
  rw [e]
  dsimp only
  rw [if_pos o]
/-! ### the size of a term -/
def Tm.bulk : Tm → Nat
  | .nm _ => 8
  | .non => 5
  | .all => 4
  | .not a => a.bulk + 5
  | .bin _ a b => a.bulk + b.bulk + 6
theorem show2_w {w : PySem.Str} (h : (w.cps.toList.all fun c => decide (c < 128)) = true) {b : Nat} (hl : decide (w.cps.toList.length ≤ b) = true) : Show2 (.str w) b 0 :=
  show2Str (fun c hc => of_decide_eq_true (List.all_eq_true.mp h c hc)) (of_decide_eq_true hl)
theorem nm_show {x : PySem.Str} (h : IsNm x) : Show2 (.str x) 8 0 := show2Str (fun c hc => by have := h.2.2 c hc; omega) h.2.1
theorem op_show {w : PySem.Str} (h : IsOp w) : Show2 (.str w) 3 0 := by
  rcases h with rfl | rfl | rfl <;> exact show2_w (by decide) (by decide)
theorem Tm.show {s : List PySem.Str} (hs : ∀ x ∈ s, IsNm x) : ∀ (t : Tm), t.ok s → Show2 t.enc t.bulk (t.deep + 1)
  | .nm z, ok => (nm_show (hs z ok)).mono (Nat.le_refl _) (Nat.zero_le _)
  | .non, _ => (show2Cons (show2_w (w := "none") (b := 4) (by decide) (by decide)) show2Nil).tup.mono (Nat.le_refl _) (Nat.le_refl _)
  | .all, _ => (show2Cons (show2_w (w := "all") (b := 3) (by decide) (by decide)) show2Nil).tup.mono (Nat.le_refl _) (Nat.le_refl _)
  | .not a, ok => by
    have ih := Tm.show hs a ok
    refine (show2Cons (show2_w (w := "not") (b := 3) (by decide) (by decide)) (show2Cons ih show2Nil)).tup.mono ?_ ?_
    · show 3 + 1 + (a.bulk + 1 + 0) ≤ a.bulk + 5
      omega
    · show max 0 (max (a.deep + 1) 0) + 1 ≤ a.deep + 1 + 1
      omega
  | .bin w a b, ok => by
    have ih := Tm.show hs a ok.2.1
    have ih2 := Tm.show hs b ok.2.2
    refine (show2Cons (op_show ok.1) (show2Cons ih (show2Cons ih2 show2Nil))).tup.mono ?_ ?_
    · show 3 + 1 + (a.bulk + 1 + (b.bulk + 1 + 0)) ≤ a.bulk + b.bulk + 6
      omega
    · show max 0 (max (a.deep + 1) (max (b.deep + 1) 0)) + 1 ≤ max a.deep b.deep + 1 + 1
      omega
end FE
namespace FE
open PySem PySem.Spec PyProof.Rows L2
def encL (ts : List Tm) : List D := ts.map Tm.enc
theorem encL_nm (s : List PySem.Str) : strL s = encL (s.map Tm.nm) := by
  unfold strL encL
  rw [List.map_map]
  rfl
theorem encL_len (ts : List Tm) : (encL ts).length = ts.length := List.length_map _
theorem encL_at {ts : List Tm} {v : Int} (h0 : 0 ≤ v) (h1 : v < ts.length) : ∃ t ∈ ts, L2.atI (encL ts) v = some t.enc := by
  obtain ⟨k, rfl⟩ : ∃ k : Nat, v = (k : Int) := ⟨v.toNat, by omega⟩
  have hk : k < ts.length := by omega
  refine ⟨ts[k], List.getElem_mem hk, ?_⟩
  refine L2.atI_nat ?_
  unfold encL
  rw [List.getElem?_map, List.getElem?_eq_getElem hk]
  rfl
end FE

namespace FE
open PySem PySem.Spec PyProof.Rows L2
/-! ### every second one -/
theorem pick_mem {α : Type} {xs : List α} {lo hi st : Option Int} {x : α} (h : x ∈ pickL xs lo hi st) : x ∈ xs := by
  unfold pickL at h
  obtain ⟨i, _, e⟩ := List.mem_filterMap.mp h
  exact List.mem_of_getElem? e
theorem picks_len {α : Type} {xs : List α} : ∀ {is : List Nat}, (∀ i ∈ is, i < xs.length) → (is.filterMap (xs[·]?)).length = is.length
  | [], _ => rfl
  | i :: is, h => by
    rw [List.filterMap_cons, List.getElem?_eq_getElem (h i List.mem_cons_self)]
    show (is.filterMap (xs[·]?)).length + 1 = is.length + 1
    rw [picks_len fun j hj => h j (List.mem_cons_of_mem _ hj)]
def ixs (lo : Option Int) (n : Nat) : List Nat := sliceRange (sliceBounds lo none (some 2) n).1 (sliceBounds lo none (some 2) n).2.1 (sliceBounds lo none (some 2) n).2.2
theorem ixs_ok : ∀ n : Fin 65, ((ixs none n).length = (n + 1) / 2 ∧ ∀ i ∈ ixs none n, i < (n : Nat)) ∧ (1 ≤ (n : Nat) → (ixs (some 1) n).length = n / 2 ∧ ∀ i ∈ ixs (some 1) n, i < (n : Nat)) := by decide +kernel
theorem ev_len {α : Type} {xs : List α} (h : xs.length ≤ 64) : (pickL xs none none (some 2)).length = (xs.length + 1) / 2 := by
  have := (ixs_ok ⟨xs.length, by omega⟩).1
  unfold pickL
  exact (picks_len this.2).trans this.1
theorem od_len {α : Type} {xs : List α} (h : xs.length ≤ 64) (h1 : 1 ≤ xs.length) : (pickL xs (some 1) none (some 2)).length = xs.length / 2 := by
  have := (ixs_ok ⟨xs.length, by omega⟩).2 h1
  unfold pickL
  exact (picks_len this.2).trans this.1
theorem pick_enc (ts : List Tm) (lo hi st : Option Int) : pickL (encL ts) lo hi st = encL (pickL ts lo hi st) := by
  unfold pickL encL
  rw [List.length_map]
  exact picks_map Tm.enc ts _
theorem zip_enc : ∀ (as bs : List Tm), zipD (encL as) (encL bs) = (as.zip bs).map fun q => .wtp [q.1.enc, q.2.enc]
  | [], _ => by simp [encL, zipD]
  | _ :: _, [] => by simp [encL, zipD]
  | a :: as, b :: bs => by
    have ih := zip_enc as bs
    unfold encL at ih
    simp [encL, zipD, ih]
theorem cut_enc (ts : List Tm) (k : Nat) : cutL (encL ts) (some (k : Int)) none = encL (ts.drop k) := by
  rw [cut_hi]
  unfold encL
  rw [List.map_drop]
end FE

namespace FE
open PySem PySem.Spec PyProof.Rows L2
/-! ### sums: addends, the places they add to, their rows -/
def regT (s : List PySem.Str) (t : Tm) : List Nat := (List.range (2 ^ s.length)).filter fun r => t.holds s r
def natsL (ns : List Nat) : List D := ns.map (fun n : Nat => D.int (n : Int))
theorem reg_nats (k : Nat) : regL k = natsL (List.range (2 ^ k)) := by
  unfold regL rngD natsL
  refine List.map_congr_left fun i _ => ?_
  congr 1
  omega
theorem regT_len (s : List PySem.Str) (t : Tm) : (regT s t).length ≤ 2 ^ s.length := by
  unfold regT
  refine Nat.le_trans (List.length_filter_le _ _) ?_
  rw [List.length_range]
  exact Nat.le_refl _
theorem regT_lt {s : List PySem.Str} {t : Tm} {r : Nat} (h : r ∈ regT s t) : r < 2 ^ s.length := by
  unfold regT at h
  exact List.mem_range.mp (List.mem_filter.mp h).1
inductive Ad where
  | lot (c : Int) | num (c : Int) (z : PySem.Str) | size (c : Int) (t : Tm)
def Ad.enc : Ad → D
  | .lot c => .tup [.str "lot", .int c]
  | .num c z => .tup [.str "num", .int c, .str z]
  | .size c t => .tup [.str "size", .int c, t.enc]
def Ad.coef : Ad → Int
  | .lot c => c
  | .num c _ => c
  | .size c _ => c
def Ad.good (s m : List PySem.Str) : Ad → Prop
  | .lot _ => True
  | .num _ z => z ∈ m
  | .size _ t => t.ok s ∧ t.deep ≤ 20 ∧ t.bulk ≤ 8000
def Ad.ok (s m : List PySem.Str) (a : Ad) : Prop := a.good s m ∧ -(10 ^ 30) ≤ a.coef ∧ a.coef ≤ 10 ^ 30
def Ad.places (s m : List PySem.Str) : Ad → List Nat
  | .lot _ => [0]
  | .num _ z => [1 + (m.idxOf z + 2 ^ s.length)]
  | .size _ t => (regT s t).map (1 + ·)
theorem Ad.places_len {s m : List PySem.Str} (a : Ad) (h : s.length ≤ 3) : (a.places s m).length ≤ 8 := by
  have p8 : 2 ^ s.length ≤ 2 ^ 3 := Nat.pow_le_pow_right (by decide) h
  cases a with
  | lot c => show 1 ≤ 8; decide
  | num c z => show 1 ≤ 8; decide
  | size c t =>
    show ((regT s t).map (1 + ·)).length ≤ 8
    rw [List.length_map]
    exact Nat.le_trans (regT_len s t) p8
theorem Ad.places_lt {s m : List PySem.Str} (a : Ad) (h : a.good s m) {p : Nat} (hp : p ∈ a.places s m) : p < 1 + (2 ^ s.length + m.length) := by
  have p1 : 1 ≤ 2 ^ s.length := Nat.one_le_two_pow
  cases a with
  | lot c =>
    rw [List.mem_singleton.mp (show p ∈ [0] from hp)]
    omega
  | num c z =>
    have := List.idxOf_lt_length_of_mem (show z ∈ m from h)
    rw [List.mem_singleton.mp (show p ∈ [1 + (m.idxOf z + 2 ^ s.length)] from hp)]
    omega
  | size c t =>
    obtain ⟨r, hr, rfl⟩ := List.mem_map.mp (show p ∈ (regT s t).map (1 + ·) from hp)
    have := regT_lt hr
    omega
def adsL (as : List Ad) : List D := as.map Ad.enc
theorem adsL_len (as : List Ad) : (adsL as).length = as.length := List.length_map _
def stepA (s m : List PySem.Str) (row : List Int) (a : Ad) : List Int := addAll a.coef row (a.places s m)
theorem stepA_len (s m : List PySem.Str) (row : List Int) (a : Ad) : (stepA s m row a).length = row.length := addAll_len _ _ _
def rowZ (s m : List PySem.Str) : List Int := List.replicate (1 + (2 ^ s.length + m.length)) 0
def rowA (s m : List PySem.Str) (as : List Ad) : List Int := as.foldl (stepA s m) (rowZ s m)
theorem rowZ_len (s m : List PySem.Str) : (rowZ s m).length = 1 + (2 ^ s.length + m.length) := List.length_replicate
theorem foldA_len (s m : List PySem.Str) : ∀ (as : List Ad) (row : List Int), (as.foldl (stepA s m) row).length = row.length
  | [], _ => rfl
  | a :: as, row => (foldA_len s m as _).trans (stepA_len s m row a)
theorem rowA_len (s m : List PySem.Str) (as : List Ad) : (rowA s m as).length = 1 + (2 ^ s.length + m.length) := (foldA_len s m as _).trans (rowZ_len s m)
theorem rowA_rev (s m : List PySem.Str) (as : List Ad) : rowA s m as.reverse = rowA s m as :=
  foldl_rev _ (fun b x y => addAll_comm b (x.places s m) (y.places s m) x.coef y.coef) as _
theorem rowA_snoc (s m : List PySem.Str) (as : List Ad) (a : Ad) : rowA s m (as ++ [a]) = stepA s m (rowA s m as) a := by
  unfold rowA
  rw [List.foldl_append]
  rfl
/-! ### how great -/
def Bd (B : Int) (row : List Int) : Prop := ∀ x ∈ row, -B ≤ x ∧ x ≤ B
theorem addAt_bd {B : Int} {row : List Int} {c : Int} (p : Nat) (h : Bd B row) (hB : 0 ≤ B) (c1 : -(10 ^ 30) ≤ c) (c2 : c ≤ 10 ^ 30) : Bd (B + 10 ^ 30) (addAt row p c) := by
  intro x hx
  rcases List.mem_or_eq_of_mem_set hx with hm | e
  · have := h x hm
    omega
  · have g : -B ≤ row.getD p 0 ∧ row.getD p 0 ≤ B := by
      by_cases l : p < row.length
      · have e : row.getD p 0 = row[p] := by simp [List.getD, l]
        rw [e]
        exact h _ (List.getElem_mem l)
      · have e : row.getD p 0 = 0 := by
          unfold List.getD
          rw [List.getElem?_eq_none (by omega)]
          rfl
        rw [e]
        omega
    omega
theorem addAll_bd {c : Int} (c1 : -(10 ^ 30) ≤ c) (c2 : c ≤ 10 ^ 30) : ∀ (ps : List Nat) (row : List Int) (B : Int), Bd B row → 0 ≤ B → Bd (B + ps.length * 10 ^ 30) (addAll c row ps)
  | [], row, B, h, hB => by
    intro x hx
    have := h x hx
    rw [List.length_nil]
    omega
  | p :: ps, row, B, h, hB => by
    have ih := addAll_bd c1 c2 ps (addAt row p c) (B + 10 ^ 30) (addAt_bd p h hB c1 c2) (by omega)
    intro x hx
    have := ih x hx
    rw [List.length_cons]
    push_cast
    omega
theorem foldA_bd {s m : List PySem.Str} (hs : s.length ≤ 3) : ∀ (as : List Ad) (row : List Int) (B : Int), (∀ a ∈ as, a.ok s m) → Bd B row → 0 ≤ B → Bd (B + as.length * (8 * 10 ^ 30)) (as.foldl (stepA s m) row)
  | [], row, B, _, h, hB => by
    intro x hx
    have := h x hx
    rw [List.length_nil]
    omega
  | a :: as, row, B, ho, h, hB => by
    have ha := ho a List.mem_cons_self
    have b1 := addAll_bd ha.2.1 ha.2.2 (a.places s m) row B h hB
    have l8 := a.places_len (m := m) hs
    have b2 : Bd (B + 8 * 10 ^ 30) (stepA s m row a) := by
      intro x hx
      have := b1 x hx
      omega
    have ih := foldA_bd hs as (stepA s m row a) (B + 8 * 10 ^ 30) (fun b hb => ho b (List.mem_cons_of_mem _ hb)) b2 (by omega)
    intro x hx
    have := ih x hx
    rw [List.length_cons]
    push_cast
    omega
theorem rowA_bd {s m : List PySem.Str} (hs : s.length ≤ 3) {as : List Ad} (hl : as.length ≤ 100) (ho : ∀ a ∈ as, a.ok s m) : Bd (10 ^ 33) (rowA s m as) := by
  have h := foldA_bd hs as (rowZ s m) 0 ho (fun x hx => by rw [(List.mem_replicate.mp hx).2]; omega) (by omega)
  intro x hx
  have := h x hx
  omega
/-! ### places of rows -/
theorem row_at {row : List Int} {p : Nat} (h : p < row.length) : L2.atI (intsL row) (p : Int) = some (.int (row.getD p 0)) := by
  rw [at_nat h]
  congr 2
  simp [List.getD, h]
theorem row_set (row : List Int) (p : Nat) (y : Int) : (intsL row).set p (.int y) = intsL (row.set p y) := by
  unfold intsL
  rw [List.map_set]
theorem ixn_nat {n p : Nat} (h : p < n) : L2.ixN n (p : Int) = some p := by
  have := ixn_of (n := n) (v := (p : Int)) (by omega) (by omega)
  rw [Int.toNat_natCast] at this
  exact this
theorem ads_snoc (as : List Ad) (a : Ad) : adsL as ++ [a.enc] = adsL (as ++ [a]) := by
  unfold adsL
  rw [List.map_append]
  rfl
/-! ### shown -/
theorem intsL_len (ns : List Int) : (intsL ns).length = ns.length := List.length_map _
theorem row_show {row : List Int} (h : Bd (10 ^ 33) row) : Show2 (.tup (intsL row)) row.length 1 := by
  refine (show2All (b := 0) (n := 0) fun d hd => ?_).tup.mono (by rw [intsL_len]; omega) (Nat.le_refl _)
  obtain ⟨i, hi, rfl⟩ := List.mem_map.mp hd
  have := h i hi
  exact show2Int this.1 this.2
theorem Ad.show {s m : List PySem.Str} (hs : ∀ x ∈ s, IsNm x) (hm : ∀ x ∈ m, IsNm x) (a : Ad) (h : a.ok s m) : Show2 a.enc 8020 22 := by
  obtain ⟨h1, h2, h3⟩ := h
  cases a with
  | lot c =>
    replace h2 : -(10 ^ 30) ≤ c := h2
    replace h3 : c ≤ 10 ^ 30 := h3
    exact (show2Cons (show2_w (w := "lot") (b := 3) (by decide) (by decide)) (show2Cons (show2Int (i := c) (by omega) (by omega)) show2Nil)).tup.mono (by decide) (by decide)
  | num c z =>
    replace h2 : -(10 ^ 30) ≤ c := h2
    replace h3 : c ≤ 10 ^ 30 := h3
    exact (show2Cons (show2_w (w := "num") (b := 3) (by decide) (by decide)) (show2Cons (show2Int (i := c) (by omega) (by omega)) (show2Cons (nm_show (hm z h1)) show2Nil))).tup.mono (by decide) (by decide)
  | size c t =>
    replace h2 : -(10 ^ 30) ≤ c := h2
    replace h3 : c ≤ 10 ^ 30 := h3
    obtain ⟨k1, k2, k3⟩ := h1
    refine (show2Cons (show2_w (w := "size") (b := 4) (by decide) (by decide)) (show2Cons (show2Int (i := c) (by omega) (by omega)) (show2Cons (Tm.show hs t k1) show2Nil))).tup.mono ?_ ?_
    · omega
    · omega
theorem ads_show {s m : List PySem.Str} (hs : ∀ x ∈ s, IsNm x) (hm : ∀ x ∈ m, IsNm x) {as : List Ad} (h : ∀ a ∈ as, a.ok s m) : Show2 (.tup (adsL as)) (as.length * 8021) 23 := by
  refine (show2All (b := 8020) (n := 22) fun d hd => ?_).tup.mono (by rw [adsL_len]; exact Nat.le_refl _) (Nat.le_refl _)
  obtain ⟨a, ha, rfl⟩ := List.mem_map.mp hd
  exact Ad.show hs hm a (h a ha)
end FE

namespace FE
open PySem PySem.Spec PyProof.Rows L2
/-! ### enumerate(t), t a tuple -/
section
open AutoSeq1 (wpAny_loadPart')
theorem meets_enumT (l : Addr) (items : Array Value) (n : Nat) (dct : Option Addr) (sl : Array (Option Value)) :
    Meets (Builtin.«enumerate.__new__» ⟨[.type "enumerate", .ref l], []⟩) (fun _ R s => s.heap.get? l = some { cls := .type "tuple", dict := dct, data := .seq items n, slots := sl } ∧
      R (.ok (.ret (.ref (s.heap.push { cls := .type "tuple_iterator", data := .fields #[.ref l, .int 0 0] }).objs.size)))
        { s with heap := (s.heap.push { cls := .type "tuple_iterator", data := .fields #[.ref l, .int 0 0] }).push { cls := .type "enumerate", data := .fields #[.none, .bool false, .ref s.heap.objs.size, rawInt 0, .none, .none] } }) :=
  .of_wp fun prog w A R s h => by
    obtain ⟨hp, g, d, tk, os⟩ := s; obtain ⟨hl, h⟩ := h
    have hsub := sub_enumerate
    have hL : Heap.IsTuple (Shared.heap ⟨hp, g, d, tk, os⟩) l items := ⟨_, hl, rfl, n, rfl⟩
    wp_walk using wpAny_loadPart' hl
    refine wpAny_stack_any fun st => wpAny_pure ?_
    split
    · rename_i c _ _ _ _ _
      cases (c == Value.type "enumerate")
      · wp_walk using wpAny_loadPart' hl, wpAny_pyIter_tuple hL
        exact ⟨_, rfl, h⟩
      · wp_walk using wpAny_loadPart' hl, wpAny_pyIter_tuple hL
        exact ⟨_, rfl, h⟩
    · wp_walk using wpAny_loadPart' hl, wpAny_pyIter_tuple hL
      exact ⟨_, rfl, h⟩
end
section
variable {prog : Program} {w : World} {A : Around} {E : Value → Shared → Prop} {s : Shared}
theorem call_enumT {l : Addr} {items : Array Value} {Q : Value → Shared → Prop} (hL : s.heap.IsTuple l items)
    (h : ∀ h', IsEnum h' (s.heap.objs.size + 1) s.heap.objs.size 0 .none → h'.IsTupleIter s.heap.objs.size l 0 → h'.objs.size = s.heap.objs.size + 2 →
      (∀ b o, s.heap.get? b = some o → h'.get? b = some o) → Q (.ref (s.heap.objs.size + 1)) { s with heap := h' }) :
    wpAny (model prog w) A (call (.type "enumerate") [.ref l]) Q E s := by
  obtain ⟨⟨c, dct, dt, sl⟩, hl, hc, n, hd⟩ := hL
  replace hc : c = .type "tuple" := hc
  replace hd : dt = .seq items n := hd
  subst hc hd
  refine callType_new F.called_enumerate (by decide) (F.typeCall_enumerate_1 _) (F.newCall_enumerate_1 _) (fun obj => F.args_object_init_2 obj _) F.entry_enumerate_new
    (meets_enumT l items n dct sl) ⟨hl, ?_⟩
  have hz : (s.heap.push { cls := .type "tuple_iterator", data := .fields #[.ref l, .int 0 0] }).objs.size = s.heap.objs.size + 1 := Heap.size_push ..
  show _ ∧ _
  rw [hz]
  have he : IsEnum ((s.heap.push { cls := .type "tuple_iterator", data := .fields #[.ref l, .int 0 0] }).push
      { cls := .type "enumerate", data := .fields #[.none, .bool false, .ref s.heap.objs.size, rawInt 0, .none, .none] }) (s.heap.objs.size + 1) s.heap.objs.size 0 .none := by
    have := Heap.get?_push_size (s.heap.push { cls := .type "tuple_iterator", data := .fields #[.ref l, .int 0 0] })
      (o := { cls := .type "enumerate", data := .fields #[.none, .bool false, .ref s.heap.objs.size, rawInt 0, .none, .none] }) rfl
    rw [hz] at this; exact this
  refine ⟨⟨_, he, rfl⟩, h _ he ⟨_, Heap.get?_push_of_some _ (Heap.get?_push_size _ rfl), rfl, rfl⟩ (by rw [Heap.size_push, hz]) fun b o x => Heap.get?_push_of_some _ (Heap.get?_push_of_some _ x)⟩
theorem draws_tup {it l : Addr} {items : Array Value} (hne : it ≠ l) (hh : A.handled = none) :
    Draws prog w A it [it, l] items.size (fun k v => items[k]? = some v) (fun k h => h.IsTupleIter it l k ∧ h.IsTuple l items) where
  live := fun i h st => by
    obtain ⟨o, e, _⟩ := st.1
    exact ⟨o, e⟩
  frame := fun i h h' st k => by
    refine ⟨Heap.IsTupleIter.at st.1 fun o e => k it (by simp) o e, ?_⟩
    obtain ⟨o, e, r⟩ := st.2
    exact ⟨o, k l (by simp) o e, r⟩
  item := fun i s Q E hi st hQ => by
    have hx : items[i]? = some items[i] := Array.getElem?_eq_getElem hi
    exact RZ.nextOf_tuple_item st.1 st.2 hx fun h' hit sb => hQ _ h' s.toks hx ⟨hit, Heap.IsTuple.extBut st.2 sb.extBut (Ne.symm hne)⟩ sb
  done := fun s Q E st hE => RZ.nextOf_tuple_end hh st.1 st.2 (Array.getElem?_eq_none (Nat.le_refl _)) hE
end
def Itte (K : PySem.W.Frag) (a : Addr) : It :=
  ⟨fun i H => ∃ (xs : List V) (x : V), SqT K H a xs ∧ xs[i]? = some x, fun i H v H' => ∃ T x, v = .ref T ∧ H T = none ∧ H' = upd H T (.tup [.int (i : Nat), x]) ∧ ∀ xs, SqT K H a xs → xs[i]? = some x, fun i H => ∃ xs : List V, SqT K H a xs ∧ xs.length ≤ i⟩
theorem turn_enumT {P : Program} {w : World} {K : PySem.W.Frag} {elts : List Expr} {kk : Nat} {tpos : Pos} (a e it : Addr) :
    Turn P w K (.Tuple elts kk tpos) (Itte K a) [e, it] e (fun i h => (∃ old, IsEnum h e it ((i : Nat) : Int) old) ∧ h.IsTupleIter it a i ∧ e ≠ it ∧ it ≠ a ∧ e ≠ a) where
  mem := by simp
  obj := fun i h st b hb => by
    obtain ⟨⟨old, he⟩, ⟨o, ho, hc, hd⟩, _⟩ := st
    have e' : b = e ∨ b = it := by simpa using hb
    rcases e' with z | z
    · rw [z]; exact ⟨_, he, fun v q => nomatch q⟩
    · rw [z]; exact ⟨o, ho, fun v q => by rw [hd] at q; cases q⟩
  keep := fun i h h' st k => let ⟨⟨old, he⟩, hi, hne⟩ := st; ⟨⟨old, k e (by simp) _ he⟩, Heap.IsTupleIter.at hi fun o q => k it (by simp) o q, hne⟩
  item := by
    intro X hP hw hK hc i pins s σ H E I hf st hg
    subst hP hw hK
    obtain ⟨⟨old, he⟩, hit, hne, hia, hea⟩ := st
    obtain ⟨xs, x, hq, hx⟩ := hg
    obtain ⟨its, rv, p, hz⟩ := I.tuple hq
    obtain ⟨u, hu, ru⟩ := rv.get hx
    have hel : e < s.heap.objs.size := Heap.lt_size he
    have hil : it < s.heap.objs.size := by obtain ⟨_, q, _⟩ := hit; exact Heap.lt_size q
    have hlt : i < its.toArray.size := by
      have := (List.getElem?_eq_some_iff.mp hu).1
      simpa using this
    have hh : X.A.in1.handled = none := I.ok.hd hc
    refine wpAny_pyNext_enum_itemD (draws_tup hia hh) he ⟨hit, p⟩ hlt hne (by simp [hne, hea]) fun x' h' tk hP ho hst hT hsz hk => ?_
    have ex : x' = u := by
      have h1 : its.toArray[i]? = some u := by simpa using hu
      rw [h1] at hP
      exact (Option.some.inj hP).symm
    subst ex
    refine ⟨_, rfl, wpAny_letOwnedTupleGo_enum (s := { s with heap := h', toks := tk + 1 }) ho fun h'' he' sb => ?_⟩
    have hT2 : h''.get? s.heap.objs.size = some { cls := .type "tuple", data := .seq #[.int i tk, x'] } := (sb.2 _ (Nat.ne_of_gt hel)).trans hT
    have new : ObjOk X.prog X.w (upd H s.heap.objs.size (.tup [.int (i : Nat), x])) h'' s.heap.objs.size (.tup [.int (i : Nat), x]) :=
      ⟨by show 2 ≤ sizeLine; decide, [.int i tk, x'], .cons ⟨_, rfl⟩ (.cons ru .nil), ⟨_, hT2, rfl, _, rfl⟩⟩
    have I1 : Inv X pins σ (upd H s.heap.objs.size (.tup [.int (i : Nat), x])) { s with heap := h'', toks := tk + 1 } :=
      I.turnedNew (ch := [e, it]) (fun b ob hb q => (sb.2 b (fun z => hb (by simp [z]))).trans (hk b ob (fun z => hb (by simp [z])) (fun z => hb (by simp [z])) q)) hf (Nat.le_refl _) new
    refine ⟨.ref s.heap.objs.size, _, I1, rfl, ⟨_, x, rfl, I.hok.fresh (Nat.le_refl _), rfl, fun ys hy => by rw [I.tuple_inj hy hq]; exact hx⟩, ⟨⟨x', ?_⟩, Heap.IsTupleIter.at hst.1 fun o q => (sb.2 it (Ne.symm hne)).trans q, hne, hia, hea⟩, fun b hb => ?_⟩
    · have e1 : ((i + 1 : Nat) : Int) = (i : Int) + 1 := by omega
      rw [e1]; exact he'
    · have hb' : b < s.heap.objs.size := by
        have e' : b = e ∨ b = it := by simpa using hb
        rcases e' with z | z
        · rw [z]; exact hel
        · rw [z]; exact hil
      rw [upd_ne (Nat.ne_of_lt hb')]
      exact (hf b hb).1
  done := by
    intro X hP hw hK hc i pins s σ H E I hf st hg
    subst hP hw hK
    obtain ⟨⟨old, he⟩, hit, hne, hia, hea⟩ := st
    obtain ⟨xs, hq, hx⟩ := hg
    obtain ⟨its, rv, p, hz⟩ := I.tuple hq
    obtain ⟨f0, f1, f2, f3, f4, f5⟩ := hf it (by simp)
    have hl := rv.length
    have hh : X.A.in1.handled = none := I.ok.hd hc
    unfold pyNext
    have hT : s.TypeIs (.ref e) "enumerate" := ⟨_, he, rfl⟩
    refine wpAny_bind (wpAny_attempt (wpAny_callSpecial?_slot (name := Str.ofString "__next__") hT F.slot_enumerate_next
      (wpAny_call_entry F.slot_enumerate_next hT F.entry_enumerate_next ?_ (F.args_enumerate_next_1 _))))
    show wpAny _ _ (field (.ref e) 2 >>= _) _ _ _
    refine wpAny_bind (wpAny_field he rfl (x := .ref it) rfl ?_)
    refine wpAny_bind (RZ.nextOf_tuple_end hh hit p (by simp; omega) fun h' x he' hx' => ?_)
    obtain ⟨o, ho, hcc⟩ := hx'
    refine wpAny_bind (wpAny_isInstance (T := "StopIteration") (b := true) ⟨o, ho, hcc⟩ isSubtype_stop ?_)
    exact wpAny_pure ⟨rfl, I.turned (t' := s.toks) (fun b o hb q => he' b o hb q) f0 f1 f3 f4 f5⟩
  self := fun A i s Q E st h => let ⟨⟨_, he⟩, _⟩ := st; wpAny_pyIter_enum he h
def iEnumT (K : PySem.W.Frag) (ta : TA) : TI := fun σ H R => ta σ H fun vs H1 => ∃ a xs, vs = [.ref a] ∧ SqT K H1 a xs ∧ R (Itte K a) H1
theorem pi_enumT {X : Cx} {e : Expr} {ta : TA} {p pos tpos : Pos} {elts : List Expr} {kk : Nat} (hg : Gl X "enumerate") (hm : X.mg "enumerate" = none) (ha : PA X [e] ta) (hs : starEach [e] X.env = [(false, eval e X.env)] := by rfl) :
    PI X (.Tuple elts kk tpos) (.Call (.Name "enumerate" p) [e] [] pos) (iEnumT X.K ta) := by
  refine ⟨fun pins s σ H R I h => ?_⟩
  refine Call_ (ld_blt I hg hm boot_enumerate (PyProof.Rows.callWith_type1 (thn (ha.run pos pins s σ H _ I h) fun us s1 ⟨vs, H1, I1, r1, q1⟩ => ?_) hs rfl))
  obtain ⟨a, xs, ex, hq, q⟩ := q1
  subst ex
  cases r1 with
  | cons r rr =>
    cases rr
    cases r
    obtain ⟨its, rv, p', hz⟩ := I1.tuple hq
    have la : a < s1.heap.objs.size := by
      obtain ⟨o, e, _⟩ := id p'
      exact Heap.lt_size e
    refine call_enumT p' fun h' he hit hsz hk => wpAny_pyIter_enum he ?_
    have I2 : Inv X pins σ H1 { s1 with heap := h' } := I1.kept (t' := s1.toks) hk
    refine ⟨s1.heap.objs.size + 1, [s1.heap.objs.size + 1, s1.heap.objs.size], _, _, H1, rfl, I2, turn_enumT a (s1.heap.objs.size + 1) s1.heap.objs.size, ⟨⟨.none, he⟩, hit, Nat.succ_ne_self _, Nat.ne_of_gt la, Nat.ne_of_gt (Nat.lt_succ_of_lt la)⟩, fun b hb => ?_, q⟩
    have e' : b = s1.heap.objs.size + 1 ∨ b = s1.heap.objs.size := by simpa using hb
    have hle : s1.heap.objs.size ≤ b := by
      rcases e' with z | z
      · rw [z]; exact Nat.le_add_right _ _
      · rw [z]; exact Nat.le_refl _
    exact I1.fpOk hle (I1.hok.fresh hle)
theorem it_enumT {G : Gd} {F : Hp} {a : Addr} {vs : List V} {ds : List D} (h : SqT G.K F a vs) (r : RepL G F vs ds) : ItRep G (Itte G.K a) F (enumD 0 ds) where
  go := fun k F1 H1 e1 e2 hk => by
    rw [enum_len] at hk
    obtain ⟨v, hv, _⟩ := r.get (List.getElem?_eq_getElem hk)
    exact ⟨vs, v, (e1.trans e2).t h, hv⟩
  stop := fun k F1 H1 e1 e2 hk => ⟨vs, (e1.trans e2).t h, by rw [r.length]; rw [enum_len] at hk; exact hk⟩
  yld := fun k d F1 H1 x H2 e1 e2 hd hy => by
    obtain ⟨T, y, rfl, hT, rfl, f⟩ := hy
    obtain ⟨e, he, rfl⟩ := enum_get ds 0 k d hd
    obtain ⟨v, hv, rv⟩ := r.get he
    have := f vs ((e1.trans e2).t h)
    rw [hv] at this
    cases this
    have fT : F1 T = none := by
      cases q : F1 T with
      | none => rfl
      | some o =>
        rw [e2 T o q] at hT
        cases hT
    refine .inr ⟨T, _, hT, rfl, .wtp (.inl (.inl upd_same)) (.cons ?_ (.cons ((rv.mono e1).mono (Ex.new fT)) .nil))⟩
    rw [Nat.zero_add]
    exact .int _
/-! ### enumerate of a list or a tuple -/
def enqD : List D → Option (List D)
  | [.lst ds] => some (enumD 0 ds)
  | [.tup ds] => some (enumD 0 ds)
  | _ => none
def iEnqK (ds : List D) (e : FE.Env) : OI := match enqD ds with
  | some xs => .ok xs e
  | none => .bad
def iEnq (os : FE.Env → OA) : FE.Env → OI := fun env => (os env).bindI iEnqK
theorem e_iEnq (os : FE.Env → OA) (env : FE.Env) : iEnq os env = (os env).bindI iEnqK := (rfl)
theorem e_iEnqK (ds : List D) (e : FE.Env) : iEnqK ds e = okI (enqD ds) e := by
  unfold iEnqK okI
  rfl
theorem e_enq_l (ds : List D) : enqD [.lst ds] = some (enumD 0 ds) := (rfl)
theorem e_enq_t (ds : List D) : enqD [.tup ds] = some (enumD 0 ds) := (rfl)
section
variable {X : Cx} {Z : Zd} {a : Expr} {os : FE.Env → OA} {p pos tpos : Pos} {elts : List Expr} {kk : Nat}
theorem n_enumq (hm : X.mg "enumerate" = none) (ha : PA X [a] (tA Z os)) (hK : Z.G.K = X.K) (hg : Gl X "enumerate" := by rfl) (hs : starEach [a] X.env = [(false, eval a X.env)] := by rfl) : PI X (.Tuple elts kk tpos) (.Call (.Name "enumerate" p) [a] [] pos) (tI Z (iEnq os)) := by
  refine PI.imp (PI.or (pi_enum hg hm ha hs) (pi_enumT hg hm ha hs)) fun σ H Q ⟨F, env, g, h⟩ => ?_
  rw [← hK]
  unfold iEnq at h
  have core : ∀ k : List V → Hp → Prop, (∀ ds env1 vs H1 F1, Good Z F1 σ H1 env1 → Ex F F1 → RepL Z.G F1 vs ds → PostI Z F1 σ Q (iEnqK ds env1) → os env = .ok ds env1 → k vs H1) → tA Z os σ H k := by
    intro k c
    refine ⟨F, env, g, ?_⟩
    cases e : os env with
    | ok r env1 =>
      rw [e] at h
      exact fun vs H1 F1 g1 x1 r1 => c r env1 vs H1 F1 g1 x1 r1 (PostI.up x1 h) e
    | exc x env1 => rw [e] at h; exact h
    | bad => rw [e] at h; exact h
  cases e : os env with
  | bad => rw [e] at h; exact h.elim
  | exc x env1 => exact .inl (core _ fun ds env1 vs H1 F1 g1 x1 r1 h1 e2 => by rw [e] at e2; cases e2)
  | ok ds0 env0 =>
    have hz : ∃ xs, enqD ds0 = some xs := by
      rw [e] at h
      cases q : enqD ds0 with
      | some xs => exact ⟨xs, rfl⟩
      | none =>
        have h : PostI Z F σ Q (iEnqK ds0 env0) := h
        unfold iEnqK at h
        rw [q] at h
        exact h.elim
    obtain ⟨xs, hz⟩ := hz
    have fin : ∀ {env1 H1 F1 J}, Good Z F1 σ H1 env1 → PostI Z F1 σ Q (iEnqK ds0 env1) → ItRep Z.G J F1 xs → Q J H1 := fun {env1 H1 F1 J} g1 h1 it => by
      unfold iEnqK at h1
      rw [hz] at h1
      exact h1 _ H1 F1 g1 (Ex.refl F1) it
    unfold enqD at hz
    split at hz
    · cases hz
      refine .inl (core _ fun ds env1 vs H1 F1 g1 x1 r1 h1 e2 => ?_)
      rw [e] at e2
      cases e2
      obtain ⟨v, rfl, rv⟩ := r1.one
      cases rv with
      | lst l1 l2 => exact ⟨_, _, rfl, (g1.fh.lr l1).sq, fin g1 h1 (it_enum l1 l2)⟩
    · cases hz
      refine .inr (core _ fun ds env1 vs H1 F1 g1 x1 r1 h1 e2 => ?_)
      rw [e] at e2
      cases e2
      obtain ⟨v, rfl, rv⟩ := r1.one
      cases rv with
      | tup l1 l2 => exact ⟨_, _, rfl, g1.fh.t l1.t, fin g1 h1 (it_enumT l1.t l2)⟩
    · cases hz
end
end FE

namespace FE
open PySem PySem.Spec PyProof.Rows L2
/-! ### truth of any value -/
theorem tru_rep {G : Gd} {F H : Hp} {x : V} {d : D} {k : Bool} (fh : Ex F H) (r : Rep G F x d) (h : truD d = some k) (hl : ∀ s, d = .str s → s.length ≤ 1000000) : TruV G.K x H k := by
  cases r with
  | non => cases h; exact rfl
  | bl b => cases h; exact rfl
  | int i => cases h; exact rfl
  | str s =>
    cases h
    refine ⟨Nat.le_trans (hl s rfl) big_line, ?_⟩
    cases q : s.length with
    | zero => rfl
    | succ n => rfl
  | wtp _ _ => cases h
  | @tup a vs ds h1 h2 =>
    cases h
    refine .inr (.inl ⟨vs, (fh.t h1.t), ?_⟩)
    cases h2 <;> rfl
  | @lst a vs ds h1 h2 =>
    cases h
    refine .inl ⟨vs, (fh.lr h1).sq, ?_⟩
    cases h2 <;> rfl
  | dic _ _ _ => cases h
  | obj _ _ _ _ _ => cases h
  | dev _ _ => cases h
def truU : D → Option Bool
  | .str x => if x.length ≤ 1000000 then some (x.length != 0) else none
  | d => truD d
theorem truU_ok {d : D} {k : Bool} (h : truU d = some k) : truD d = some k ∧ ∀ s, d = .str s → s.length ≤ 1000000 := by
  cases d with
  | str x =>
    unfold truU at h
    dsimp only at h
    split at h
    · rename_i c
      exact ⟨h, fun s e => by cases e; exact c⟩
    · cases h
  | _ => exact ⟨h, fun s e => by cases e⟩
def okT (e : FE.Env) : Option Bool → OT
  | some b => .ok b e
  | none => .bad
def truUK (r : R) (e : FE.Env) : OT := okT e (truU r.fz)
def oTruU (oa : FE.Env → OE) : FE.Env → OT := fun env => (oa env).bindT truUK
theorem e_truU (oa : FE.Env → OE) (env : FE.Env) : oTruU oa env = (oa env).bindT truUK := (rfl)
theorem e_truUK (r : R) (e : FE.Env) : truUK r e = okT e (truU r.fz) := (rfl)
theorem e_okT (b : Bool) (e : FE.Env) : okT e (some b) = .ok b e := (rfl)
theorem e_truU_l (ds : List D) : truU (.lst ds) = some (!ds.isEmpty) := (rfl)
theorem e_truU_t (ds : List D) : truU (.tup ds) = some (!ds.isEmpty) := (rfl)
theorem e_truU_b (b : Bool) : truU (.bl b) = some b := (rfl)
theorem e_truU_i (i : Int) : truU (.int i) = some (i != 0) := (rfl)
theorem e_truU_n : truU .non = some false := (rfl)
section
variable {X : Cx} {Z : Zd} {a : Expr} {oa : FE.Env → OE}
theorem n_truU (hK : Z.G.K = X.K) (ha : PE X a (tE Z oa)) (he : ∀ whole, isTrue a X.env whole = (do let v ← whole; standAt a.pos; holding [v] (truthy v)) := by intro _; rfl) : PT X a (tT Z (oTruU oa)) := by
  refine PT.imp (pt_truth ha he) fun σ H Q ⟨F, env, g, h⟩ => ?_
  refine seqET g h fun r1 env1 v1 H1 F1 g1 x1 rp1 h1 => ?_
  unfold truUK at h1
  cases q : truU r1.fz with
  | none => rw [q] at h1; exact h1.elim
  | some k =>
    rw [q] at h1
    obtain ⟨q1, q2⟩ := truU_ok q
    exact ⟨k, by rw [← hK]; exact tru_rep g1.fh rp1 q1 q2, h1 H1 F1 g1 (Ex.refl F1)⟩
/-- a list of one's own: whether it holds anything -/
def oTruV (i : Nat) : FE.Env → OT := fun env => match ownAt env i with
  | some ds => .ok (!ds.isEmpty) env
  | none => .bad
theorem n_truV (i : Nat) {x : PySem.Str} {px : Pos} (hK : Z.G.K = X.K) (hN : X.N[i]? = some x := by rfl) (hv : Vis X.env.scope x := by first | exact Or.inl rfl | exact Or.inr (Or.inl rfl) | exact Or.inr (Or.inr rfl)) (hd : (x == ("__debug__" : PySem.Str)) = false := by decide)
    (hcd : (x == ("__classdict__" : PySem.Str)) = false := by decide) (he : ∀ whole, isTrue (.Name x px) X.env whole = (do let v ← whole; standAt (Expr.Name x px).pos; holding [v] (truthy v)) := by intro _; rfl) : PT X (.Name x px) (tT Z (oTruV i)) := by
  refine PT.imp (pt_truth (pe_var hN hv hd hcd) he) fun σ H Q ⟨F, env, g, h⟩ => ?_
  unfold oTruV at h
  cases ho : ownAt env i with
  | none => rw [ho] at h; exact h.elim
  | some ds =>
    rw [ho] at h
    obtain ⟨a, vs, e1, e2, e3⟩ := own_at g ho
    refine ⟨_, e1, !ds.isEmpty, .inl ⟨vs, by rw [← hK]; exact e2.sq, ?_⟩, h H F g (Ex.refl F)⟩
    cases e3 <;> rfl
end
def okTV (e : FE.Env) : Option (List D) → OT
  | some ds => .ok (!ds.isEmpty) e
  | none => .bad
theorem e_truV (i : Nat) (env : FE.Env) : oTruV i env = okTV env (ownAt env i) := by
  unfold oTruV okTV
  cases ownAt env i <;> rfl
theorem e_okTV (e : FE.Env) (ds : List D) : okTV e (some ds) = .ok (!ds.isEmpty) e := (rfl)
/-! ### x.extend(e), e a list or a tuple -/
section
open AutoSeq1 (wpAny_loadPart')
open PySem.AutoSeq1
theorem list_ext_tup (l : Addr) (items : Array Value) (n : Nat) (b : Addr) (items2 : Array Value) (n2 : Nat) (dct : Option Addr) (sl : Array (Option Value)) (hs0 : ¬(!items.isEmpty && Builtin.List.listTooLong (items.size + items2.size)) = true) (hs1 : items.size ≤ sizeLine) (hs2 : items.size + items2.size ≤ sizeLine + 1) :
    Meets (Builtin.«list.extend» ⟨[.ref l, .ref b], []⟩) (fun _ R s => s.heap.get? l = some { cls := .type "list", dict := none, data := .seq items n, slots := #[] } ∧ s.heap.get? b = some { cls := .type "tuple", dict := dct, data := .seq items2 n2, slots := sl } ∧ R (.ok (.ret Value.none)) { s with heap := s.heap.update l (Obj.mapSeq fun x => x ++ items2), toks := s.toks }) :=
  .of_wp fun prog w A R s h => by
    obtain ⟨hp, g, d, tk, os⟩ := s; obtain ⟨hl, hb, h⟩ := h; have f1 := idx_int; have f2 := AutoSeq1.sub_tuple_tuple; have f3 := AutoSeq1.sub_list_list; have f4 := AutoSeq1.sub_tuple_list; have f5 := AutoSeq1.sub_list_tuple;
    have hz' : (items ++ items2).size ≤ sizeLine + 1 := by rw [Array.size_append]; exact hs2
    wp_walk using (wpAny_updateSeq hl rfl (hz := hs1) (_hz' := hz')), wpAny_loadPart' hl, wpAny_loadPart' hb; exact ⟨_, rfl, h⟩
theorem list_ext_lst (l : Addr) (items : Array Value) (n : Nat) (b : Addr) (items2 : Array Value) (n2 : Nat) (dct : Option Addr) (sl : Array (Option Value)) (hs0 : ¬(!items.isEmpty && Builtin.List.listTooLong (items.size + items2.size)) = true) (hs1 : items.size ≤ sizeLine) (hs2 : items.size + items2.size ≤ sizeLine + 1) :
    Meets (Builtin.«list.extend» ⟨[.ref l, .ref b], []⟩) (fun _ R s => s.heap.get? l = some { cls := .type "list", dict := none, data := .seq items n, slots := #[] } ∧ s.heap.get? b = some { cls := .type "list", dict := dct, data := .seq items2 n2, slots := sl } ∧ R (.ok (.ret Value.none)) { s with heap := s.heap.update l (Obj.mapSeq fun x => x ++ items2), toks := s.toks }) :=
  .of_wp fun prog w A R s h => by
    obtain ⟨hp, g, d, tk, os⟩ := s; obtain ⟨hl, hb, h⟩ := h; have f1 := idx_int; have f2 := AutoSeq1.sub_tuple_tuple; have f3 := AutoSeq1.sub_list_list; have f4 := AutoSeq1.sub_tuple_list; have f5 := AutoSeq1.sub_list_tuple;
    have hz' : (items ++ items2).size ≤ sizeLine + 1 := by rw [Array.size_append]; exact hs2
    wp_walk using (wpAny_updateSeq hl rfl (hz := hs1) (_hz' := hz')), wpAny_loadPart' hl, wpAny_loadPart' hb; exact ⟨_, rfl, h⟩
end
def rExtU (K : PySem.W.Frag) : V → List V → Hp → VK → Prop := fun x vs H Q => ∃ l b xs zs, x = .ref l ∧ vs = [.ref b] ∧ H l = some (.lst xs) ∧ (SqL K H b zs ∨ SqT K H b zs) ∧ xs.length + zs.length ≤ sizeLine ∧ Q .non (upd H l (.lst (xs ++ zs)))
theorem mt_extU {X : Cx} : MtM X "list.extend" (rExtU X.K) := by
  intro pins s σ H x vs v us Q I rx rv h
  obtain ⟨l, b, xs, zs, rfl, rfl, hH, hB, hz, q⟩ := h
  cases rx
  obtain ⟨u, rfl, ru⟩ := rv.one
  cases ru
  obtain ⟨z, its, n, r, hl, e⟩ := I.lstM hH
  rcases hB with hB | hB
  · obtain ⟨its2, r2, pl, _⟩ := I.list hB
    have hl2 := r2.length
    have hsz : its.toArray.size + its2.toArray.size ≤ sizeLine := by rw [List.size_toArray, List.size_toArray]; omega
    have hlong : ¬ (!its.toArray.isEmpty && Builtin.List.listTooLong (its.toArray.size + its2.toArray.size)) = true := by
      rw [notLongL hsz, Bool.and_false]
      exact Bool.false_ne_true
    obtain ⟨⟨cls, dd, dt, sl⟩, n2, e2, hc, _, hd⟩ := pl
    simp only at hc hd
    subst hc
    subst hd
    refine call_meets F.slot_list_extend ⟨_, e, rfl⟩ F.entry_list_extend (F.args_list_extend_2 _ _)
      (list_ext_lst l its.toArray n b its2.toArray n2 dd sl hlong (by rw [List.size_toArray]; omega) (by omega)) ⟨e, e2, ?_⟩
    refine ⟨.non, _, I.lset (its' := its ++ its2) hH e (by simp) (r.append r2) ?_, rfl, q⟩
    rw [List.length_append]
    omega
  · obtain ⟨its2, r2, pl, _⟩ := I.tuple hB
    have hl2 := r2.length
    have hsz : its.toArray.size + its2.toArray.size ≤ sizeLine := by rw [List.size_toArray, List.size_toArray]; omega
    have hlong : ¬ (!its.toArray.isEmpty && Builtin.List.listTooLong (its.toArray.size + its2.toArray.size)) = true := by
      rw [notLongL hsz, Bool.and_false]
      exact Bool.false_ne_true
    obtain ⟨⟨cls, dd, dt, sl⟩, e2, hc, n2, hd⟩ := pl
    simp only at hc hd
    subst hc
    subst hd
    refine call_meets F.slot_list_extend ⟨_, e, rfl⟩ F.entry_list_extend (F.args_list_extend_2 _ _)
      (list_ext_tup l its.toArray n b its2.toArray n2 dd sl hlong (by rw [List.size_toArray]; omega) (by omega)) ⟨e, e2, ?_⟩
    refine ⟨.non, _, I.lset (its' := its ++ its2) hH e (by simp) (r.append r2) ?_, rfl, q⟩
    rw [List.length_append]
    omega
def seqD : D → Option (List D)
  | .lst ds => some ds
  | .tup ds => some ds
  | _ => none
def extS (i : Nat) (e : FE.Env) (ds : List D) : Option (List D) → OS
  | some es => if ds.length + es.length ≤ 1000000 then nxO (setOwn e i (ds ++ es)) else .bad
  | none => .bad
def extO (i : Nat) (rv : R) (e : FE.Env) : Option (List D) → OS
  | some ds => extS i e ds (seqD rv.fz)
  | none => .bad
def extK (i : Nat) (rv : R) (e : FE.Env) : OS := extO i rv e (e[i]?.bind Own)
def extB (i : Nat) (ov : FE.Env → OE) (env : FE.Env) : Bool → OS
  | true => (ov env).bindS (extK i)
  | false => .bad
def sExt (i : Nat) (ov : FE.Env → OE) : FE.Env → OS := fun env => extB i ov env (env[i]?.bind Own).isSome
theorem e_ext (i : Nat) (ov : FE.Env → OE) (env : FE.Env) : sExt i ov env = extB i ov env (env[i]?.bind Own).isSome := (rfl)
theorem e_extB (i : Nat) (ov : FE.Env → OE) (env : FE.Env) : extB i ov env true = (ov env).bindS (extK i) := (rfl)
theorem e_extK (i : Nat) (rv : R) (e : FE.Env) : extK i rv e = extO i rv e (e[i]?.bind Own) := (rfl)
theorem e_extO (i : Nat) (rv : R) (e : FE.Env) (ds : List D) : extO i rv e (some ds) = extS i e ds (seqD rv.fz) := (rfl)
theorem e_extS (i : Nat) (e : FE.Env) (ds es : List D) : extS i e ds (some es) = if ds.length + es.length ≤ 1000000 then nxO (setOwn e i (ds ++ es)) else .bad := (rfl)
theorem e_seqD_l (ds : List D) : seqD (.lst ds) = some ds := (rfl)
theorem e_seqD_t (ds : List D) : seqD (.tup ds) = some ds := (rfl)
section
variable {X : Cx} {Z : Zd} {a : Expr} {oa : FE.Env → OE} {pos : Pos}
theorem n_ext (i : Nat) {x : PySem.Str} {p apos cpos : Pos} (hK : Z.G.K = X.K) (ha : PE X a (tE Z oa)) (hN : X.N[i]? = some x := by rfl) (hv : Vis X.env.scope x := by first | exact Or.inl rfl | exact Or.inr (Or.inl rfl) | exact Or.inr (Or.inr rfl)) (hd : (x == ("__debug__" : PySem.Str)) = false := by decide)
    (hcd : (x == ("__classdict__" : PySem.Str)) = false := by decide) (hline : (apos.endLine == cpos.line) = true := by rfl) (hs : starEach [a] X.env = (false, eval a X.env) :: starEach [] X.env := by rfl)
    (hfew : ((backTo cpos (starEach [a] X.env)).all (fun x => !x.1) && (backToKw cpos (keywordEach [] X.env)).all (fun x => x.1.isSome)
      && decide ([a].length + ([] : List Keyword).length + (if ([] : List Keyword).isEmpty then 0 else 1) < 30)) = true := by rfl) :
    PS X (.Expr (.Call (.Attribute (.Name x p) "extend" apos) [a] [] cpos) pos) (tS Z (sExt i oa)) := by
  refine PS.imp (ps_expr (pe_bm PySem.F.plainAttrs_list PySem.F.slot_list_extend PySem.F.type_list_extend mt_extU (pe_var hN hv hd hcd) (pa_cons ha pa_nil hs) (hfew := hfew) (hline := hline) (hs := hs))) fun Dn σ H ⟨F, env, g, h⟩ => ?_
  unfold sExt at h
  cases hh : (env[i]?.bind Own).isSome with
  | false => rw [hh] at h; exact h.elim
  | true =>
    rw [hh] at h
    obtain ⟨ds0, hs0⟩ := Option.isSome_iff_exists.mp hh
    obtain ⟨s0, k1, k2⟩ := own_get hs0
    obtain ⟨a0, vs0, hu, k3, _⟩ := g.ow i s0 ds0 k1 k2
    refine ⟨.ref a0, hu, .inl ⟨rfl, _, .inl (.inl k3)⟩, ?_⟩
    have h' : PostS Z F Dn ((oa env).bindS (extK i)) := h
    refine seqES g h' fun rv env1 v H1 F1 g1 x1 r1 h1 => ?_
    obtain ⟨F2, g2, x2, r2⟩ := g1.give r1
    replace h1 := PostS.up x2 h1
    unfold extK at h1
    cases ho : env1[i]?.bind Own with
    | none => rw [ho] at h1; exact h1.elim
    | some ds =>
      rw [ho] at h1
      unfold extO at h1
      dsimp only at h1
      cases hq : seqD rv.fz with
      | none => rw [hq] at h1; exact h1.elim
      | some es =>
        rw [hq] at h1
        unfold extS at h1
        dsimp only at h1
        split at h1
        case isFalse => exact h1.elim
        rename_i hl
        cases he : setOwn env1 i (ds ++ es) with
        | none => rw [he] at h1; exact h1.elim
        | some env5 =>
          rw [he] at h1
          obtain ⟨s, e1, e2⟩ := own_get ho
          obtain ⟨a, vs, q1, q2, q3, q4, q5⟩ := g2.ow i s ds e1 e2
          rw [hu] at q1
          cases q1
          obtain ⟨b, zs, ev, hb, rz⟩ : ∃ b zs, v = .ref b ∧ (SqL X.K H1 b zs ∨ SqT X.K H1 b zs) ∧ RepL Z.G F2 zs es := by
            rw [← hK]
            generalize rv.fz = d at hq r2
            cases r2 <;> try cases hq
            · exact ⟨_, _, rfl, .inr (g2.fh.t (NdT.t ‹_›)), ‹_›⟩
            · exact ⟨_, _, rfl, .inl (g2.fh.lr ‹_›).sq, ‹_›⟩
          subst ev
          refine ⟨a0, b, vs, zs, rfl, rfl, q2, hb, Nat.le_trans (by rw [q4.length, rz.length]; exact hl) big_line, ?_⟩
          exact h1 σ _ F2 (g2.wr e1 e2 hu q2 (q4.append rz) he) (Ex.refl F2)
end
/-! ### *e among the items of a display -/
def starK2 (es : List D) (ds : List D) (e : FE.Env) : OA := .ok (es ++ ds) e
def starK1 (os : FE.Env → OA) (e : FE.Env) : Option (List D) → OA
  | some es => (os e).bind (starK2 es)
  | none => .bad
def starK (os : FE.Env → OA) (r : R) (e : FE.Env) : OA := starK1 os e (seqD r.fz)
def oStar (oa : FE.Env → OE) (os : FE.Env → OA) : FE.Env → OA := fun env => (oa env).bindA (starK os)
theorem e_star (oa : FE.Env → OE) (os : FE.Env → OA) (env : FE.Env) : oStar oa os env = (oa env).bindA (starK os) := (rfl)
theorem e_starK (os : FE.Env → OA) (r : R) (e : FE.Env) : starK os r e = starK1 os e (seqD r.fz) := (rfl)
theorem e_starK1 (os : FE.Env → OA) (e : FE.Env) (es : List D) : starK1 os e (some es) = (os e).bind (starK2 es) := (rfl)
theorem e_starK2 (es ds : List D) (e : FE.Env) : starK2 es ds e = .ok (es ++ ds) e := (rfl)
section
variable {X : Cx} {Z : Zd} {a : Expr} {es : List Expr} {oa : FE.Env → OE} {os : FE.Env → OA} {p : Pos}
theorem n_star (hK : Z.G.K = X.K) (ha : PE X a (tE Z oa)) (hr : PA X es (tA Z os)) (hs : starEach (.Starred a p :: es) X.env = (true, eval a X.env) :: starEach es X.env := by rfl) : PA X (.Starred a p :: es) (tA Z (oStar oa os)) := by
  refine PA.imp (StX.pa_star ha hr hs) fun σ H Q ⟨F, env, g, h⟩ => ?_
  refine seqEA g h fun r1 env1 v1 H1 F1 g1 x1 rp1 h1 => ?_
  unfold starK at h1
  cases hq : seqD r1.fz with
  | none => rw [hq] at h1; exact h1.elim
  | some ds =>
    rw [hq] at h1
    obtain ⟨b, zs, ev, hb, rz⟩ : ∃ b zs, v1 = .ref b ∧ (SqT X.K H1 b zs ∨ SqL X.K H1 b zs) ∧ RepL Z.G F1 zs ds := by
      rw [← hK]
      generalize r1.fz = d at hq rp1
      cases rp1 <;> try cases hq
      · exact ⟨_, _, rfl, .inl (g1.fh.t (NdT.t ‹_›)), ‹_›⟩
      · exact ⟨_, _, rfl, .inr (g1.fh.lr ‹_›).sq, ‹_›⟩
    refine ⟨b, zs, ev, hb, ?_⟩
    have h1' : PostA Z F1 σ Q ((os env1).bind (starK2 ds)) := h1
    refine seqAA g1 h1' fun ws env2 vs H2 F2 g2 x2 rp2 h2 => ?_
    exact h2 (zs ++ vs) H2 F2 g2 (Ex.refl F2) ((rz.mono x2).append rp2)
end
/-! ### tables of the top: in, not in -/
theorem keys_find {P : Params} (z : PySem.Str) : ∀ {l : List DictEntry} {ks : List PySem.Str}, l.map He.keyOf = He.keysIn P ks → (l.find? (·.key.isStr z)).isSome = decide (z ∈ ks) ∧ l.any (·.refKey) = false
  | [], [], _ => ⟨rfl, rfl⟩
  | e :: l, [], h => by cases h
  | [], k :: ks, h => by cases h
  | e :: l, k :: ks, h => by
    have h1 : He.keyOf e :: l.map He.keyOf = some (k, PyData.keyHash P k) :: He.keysIn P ks := h
    injection h1 with h2 h3
    obtain ⟨i1, i2⟩ := keys_find z h3
    obtain ⟨ek, ev⟩ : ∃ t, e.key = .str k t := by
      unfold He.keyOf at h2
      split at h2
      · rename_i x t q
        have h4 := (Prod.mk.inj (Option.some.inj h2)).1
        exact ⟨t, by rw [q, h4]⟩
      · cases h2
    have s1 : e.key.isStr z = decide (z = k) := by
      rw [ev]
      show (k == z) = _
      by_cases c : k = z
      · subst c
        rw [decide_eq_true rfl, beq_self_eq_true]
      · rw [decide_eq_false fun e => c e.symm, beq_eq_false_iff_ne.mpr c]
    have s2 : e.refKey = false := by
      unfold DictEntry.refKey
      rw [ev]
    refine ⟨?_, by rw [List.any_cons, s2, i2]; rfl⟩
    rw [List.find?_cons, s1]
    by_cases c : z = k
    · rw [decide_eq_true c, decide_eq_true (List.mem_cons.mpr (.inl c))]
      rfl
    · rw [decide_eq_false c]
      dsimp only
      rw [i1]
      congr 1
      exact propext ⟨fun h => List.mem_cons_of_mem _ h, fun h => (List.mem_cons.mp h).resolve_left c⟩
/-- a table of the top, its keys -/
def KIn (K : PySem.W.Frag) (w : World) (d : Addr) (ks : List PySem.Str) : Prop := ∃ es n, KDict K w d es n ∧ ∀ z, ∃ r, PySem.W.nsIn K d z = some r ∧ r.isSome = decide (z ∈ ks)
theorem kin_ok {K : PySem.W.Frag} {w : World} {a : Addr} {ks : List PySem.Str} (h : He.dicW K a = some (He.keysIn w.params ks)) : KIn K w a ks := by
  obtain ⟨es, n, D⟩ := He.dicW_ok h
  refine ⟨es, n, D, fun z => ?_⟩
  have h2 : es.toList.map He.keyOf = He.keysIn w.params ks := by
    unfold He.dicW at h
    rw [D.at_] at h
    dsimp only at h
    rw [D.low] at h
    exact Option.some.inj h
  obtain ⟨i1, i2⟩ := keys_find z h2
  unfold PySem.W.nsIn
  rw [D.at_]
  dsimp only
  cases q : es.toList.find? (·.key.isStr z) with
  | some e => exact ⟨_, rfl, by rw [q] at i1; exact i1⟩
  | none => exact ⟨none, by rw [if_neg (by rw [i2]; decide)], by rw [q] at i1; exact i1⟩
structure TpT (fa : List He.Fa) (fn : List He.DefD) (ts : List He.Tab) (ex : PySem.W.Frag → Bool) (w : World) (K : PySem.W.Frag) (mg : PySem.Str → Option Value) (h : Heap) : Prop where
  kx : K.In h
  g : h.Ns mainGlobals mg
  c : He.SaysX fa fn ts [] ex w h K
section
variable {fa : List He.Fa} {fn : List He.DefD} {ts : List He.Tab} {ex : PySem.W.Frag → Bool} {w : World} {K : PySem.W.Frag} {mg : PySem.Str → Option Value} {h : Heap}
theorem TpT.d (T : TpT fa fn ts ex w K mg h) : He.SaysD fa fn K := T.c.t.d
theorem TpT.fact (T : TpT fa fn ts ex w K mg h) {f : He.Fa} (i : Nat) (e : fa[i]? = some f := by rfl) : f.ok K = true := T.d.fact i e
theorem TpT.free (T : TpT fa fn ts ex w K mg h) {x : PySem.Str} (i : Nat) (e : fa[i]? = some (.free x) := by rfl) : mg x = none := He.free_ok T.kx T.g (T.fact i e)
theorem TpT.int (T : TpT fa fn ts ex w K mg h) {x : PySem.Str} {n : Int} (i : Nat) (e : fa[i]? = some (.int x n) := by rfl) : ∃ u, mg x = some u ∧ RelV (.int n) u := by
  obtain ⟨t, q⟩ := He.int_ok T.kx T.g (T.fact i e)
  exact ⟨_, q, t, rfl⟩
theorem TpT.str (T : TpT fa fn ts ex w K mg h) {x z : PySem.Str} (i : Nat) (e : fa[i]? = some (.str x z) := by rfl) : ∃ u, mg x = some u ∧ RelV (.str z) u := by
  obtain ⟨t, q⟩ := He.str_ok T.kx T.g (T.fact i e)
  exact ⟨_, q, t, rfl⟩
theorem TpT.tab (T : TpT fa fn ts ex w K mg h) (i : Nat) {t : He.Tab} (e : ts[i]? = some t := by rfl) : KIn K w (t.1 K) t.2 := by
  have e1 : ts.map (fun t => He.dicW K (t.1 K)) = ts.map fun t => some (He.keysIn w.params t.2) := congrArg (fun z : He.AlT => z.2) T.c.t
  have e2 : (ts.map fun t => He.dicW K (t.1 K))[i]? = (ts.map fun t => some (He.keysIn w.params t.2))[i]? := by rw [e1]
  rw [List.getElem?_map, List.getElem?_map, e] at e2
  exact kin_ok (Option.some.inj e2)
end
def inK (ks : List PySem.Str) : D → Option R
  | .str z => some (.sh (.bl (decide (z ∈ ks))))
  | _ => none
def ninK (ks : List PySem.Str) : D → Option R
  | .str z => some (.sh (.bl (!decide (z ∈ ks))))
  | _ => none
theorem e_inK (ks : List PySem.Str) (z : PySem.Str) : inK ks (.str z) = some (.sh (.bl (decide (z ∈ ks)))) := (rfl)
theorem e_ninK (ks : List PySem.Str) (z : PySem.Str) : ninK ks (.str z) = some (.sh (.bl (!decide (z ∈ ks)))) := (rfl)
section
variable {X : Cx} {Z : Zd} {a : Expr} {oa : FE.Env → OE} {d : Addr} {ks : List PySem.Str} {x : PySem.Str} {p pos : Pos}
theorem inK_to (hk : KIn X.K X.w d ks) {σ : L2.St} {H : Hp} {Q : VK} (h : tE Z (oUn (inK ks) oa) σ H Q) :
    tE Z oa σ H fun x H1 => ∃ (z : PySem.Str) (r : Option Value), x = .str z ∧ V.ref d = V.ref d ∧ PySem.W.nsIn X.K d z = some r ∧ Q (.bl r.isSome) H1 := by
  obtain ⟨es, n, D, hz⟩ := hk
  obtain ⟨F, env, g, h⟩ := h
  refine seqE g h fun r1 env1 v1 H1 F1 g1 x1 rp1 h1 => ?_
  generalize r1.fz = dd at h1 rp1
  cases dd <;> try exact h1.elim
  rename_i z
  cases rp1
  obtain ⟨r, e1, e2⟩ := hz z
  refine ⟨z, r, rfl, rfl, e1, ?_⟩
  rw [e2]
  exact h1 (.bl _) H1 F1 g1 (Ex.refl F1) (.bl _)
theorem n_inK (hm : X.mg x = some (.ref d)) (hk : KIn X.K X.w d ks) (ha : PE X a (tE Z oa)) (hg : Gl X x := by rfl) (hd : (x == ("__debug__" : PySem.Str)) = false := by decide) (hb : behindInMarks .In (.Name x p) = false := by rfl) :
    PE X (.Compare a [.In] [.Name x p] pos) (tE Z (oUn (inK ks) oa)) := by
  obtain ⟨es, n, D, _⟩ := id hk
  exact PE.imp (pe_cmpR (op_in_kd D) ha (pe_glob (v := .ref d) hg hm rfl hd) hb) fun σ H Q h => inK_to hk h
theorem n_tinK (hm : X.mg x = some (.ref d)) (hk : KIn X.K X.w d ks) (ha : PE X a (tE Z oa)) (hg : Gl X x := by rfl) (hd : (x == ("__debug__" : PySem.Str)) = false := by decide) (hb : behindInMarks .In (.Name x p) = false := by rfl) :
    PT X (.Compare a [.In] [.Name x p] pos) (tT Z (oTru (oUn (inK ks) oa))) := by
  obtain ⟨es, n, D, _⟩ := id hk
  refine PT.imp (pt_cmpR (op_in_kd D) ha (pe_glob (v := .ref d) hg hm rfl hd) hb) fun σ H Q h => ?_
  exact inK_to hk (test_to h)
end
end FE

namespace FE
open PySem PySem.Spec PyProof.Rows L2
/-! ### calls all by name, in any order -/
def pm {α : Type} (π : List Nat) (xs : List α) : List α := π.filterMap (xs[·]?)
theorem pm_nil {α : Type} (xs : List α) : pm [] xs = [] := (rfl)
theorem pm_cons {α : Type} {i : Nat} {π : List Nat} {xs : List α} {x : α} (h : xs[i]? = some x) : pm (i :: π) xs = x :: pm π xs := by
  unfold pm
  rw [List.filterMap_cons, h]
theorem pm_vals {vs : List V} {us : List Value} (r : Vals vs us) : ∀ {π : List Nat}, Vals (pm π vs) (pm π us)
  | [] => .nil
  | i :: π => by
    by_cases h : i < vs.length
    · obtain ⟨u, e, ru⟩ := r.get (List.getElem?_eq_getElem h)
      rw [pm_cons (List.getElem?_eq_getElem h), pm_cons e]
      exact .cons ru (pm_vals r)
    · have e1 : vs[i]? = none := List.getElem?_eq_none (by omega)
      have e2 : us[i]? = none := List.getElem?_eq_none (by rw [← r.length]; omega)
      unfold pm
      rw [List.filterMap_cons, List.filterMap_cons, e1, e2]
      exact pm_vals r
theorem pm_rep {G : Gd} {F : Hp} {vs : List V} {ds : List D} (r : RepL G F vs ds) : ∀ {π : List Nat}, RepL G F (pm π vs) (pm π ds)
  | [] => .nil
  | i :: π => by
    by_cases h : i < ds.length
    · obtain ⟨v, e, rv⟩ := r.get (List.getElem?_eq_getElem h)
      rw [pm_cons (List.getElem?_eq_getElem h), pm_cons e]
      exact .cons rv (pm_rep r)
    · have e1 : ds[i]? = none := List.getElem?_eq_none (by omega)
      have e2 : vs[i]? = none := List.getElem?_eq_none (by rw [r.length]; omega)
      unfold pm
      rw [List.filterMap_cons, List.filterMap_cons, e1, e2]
      exact pm_rep r
theorem pm_len {α : Type} {xs : List α} : ∀ {π : List Nat}, (∀ i ∈ π, i < xs.length) → (pm π xs).length = π.length
  | [], _ => rfl
  | i :: π, h => by
    rw [pm_cons (List.getElem?_eq_getElem (h i List.mem_cons_self)), List.length_cons, List.length_cons, pm_len fun j hj => h j (List.mem_cons_of_mem _ hj)]
section
variable {X : Cx} {Z : Zd} {ok : FE.Env → OA} {pos : Pos}
def oCall0P (f : List D → OC) (m : Nat) (π : List Nat) (ok : FE.Env → OA) : FE.Env → OE := fun env => (ok env).bindE (calK2 f 0 m (fun _ es => pm π es) [])
theorem e_call0P (f : List D → OC) (m : Nat) (π : List Nat) (ok : FE.Env → OA) (env : FE.Env) : oCall0P f m π ok env = (ok env).bindE (calK2 f 0 m (fun _ es => pm π es) []) := (rfl)
theorem n_call0P {k np : Nat} {ks : List PySem.Str} (π : List Nat) {fo : List D → OC} {x : PySem.Str} {p : Pos} {kws : List Keyword} (c : Cal X.prog X.w X.K X.mg X.base k x 0 ks (fun _ zs => pm π zs) (spF Z.G Z.C np none fo)) (hx : RoomX k X) (tk : Takes X Z.W) (hnp : np = π.length) (hπ : ∀ i ∈ π, i < ks.length) (hkw : PK X kws (tA Z ok))
    (hgl : Gl X x := by rfl) (hall : (backToKw pos (keywordEach kws X.env)).all (·.1.isSome) = true := by rfl) (hks : (backToKw pos (keywordEach kws X.env)).filterMap (·.1) = ks := by rfl)
    (hdb : (x == ("__debug__" : PySem.Str)) = false := by decide) (hpl : ((backTo pos (starEach [] X.env)).any (·.1) || (backToKw pos (keywordEach kws X.env)).any (·.1.isNone)) = false := by rfl) :
    PE X (.Call (.Name x p) [] kws pos) (tE Z (oCall0P fo ks.length π ok)) := by
  obtain ⟨f, fd, ps, gg, hm, hk, F, hb⟩ := c.ex
  constructor
  rintro pins s σ H Q I ⟨F0, env, gd, h⟩
  refine wpAny_Call_Name_kw (ld_glob I hgl hm ?_ hdb)
  refine PySem.W.callWith_KW0 (h₀ := X.base) I.ok.mod.kin hk hall ?_ hpl
  have h0 : tA Z ok σ H (fun zs H2 => zs.length = ks.length ∧ spF Z.G Z.C np none fo (pm π zs) H2 Q (fun cls d H' => Z.W cls d σ H')) := by
    refine seqAE gd h fun es env2 zs H2 F2 g2 x2 r2 h2 => ?_
    unfold calK2 at h2
    split at h2
    case isFalse => exact h2.elim
    rename_i hl
    have l2 : zs.length = ks.length := r2.length.trans hl.2
    refine ⟨l2, F2, pm π es, [], (pm_len fun i hi => by rw [l2]; exact hπ i hi).trans hnp.symm, argsOk_all g2.fh (pm_rep r2), ?_⟩
    cases q : fo (pm π es) with
    | bad => rw [q] at h2; exact h2
    | exc y out =>
      rw [q] at h2
      exact fun cls d H' F' b rx => h2 cls d H' F' (g2.callee b (fun a h => by cases h) (fun a h => by cases h)) b.ff rx
    | ret r out =>
      rw [q] at h2
      exact fun v H' F' b rr => h2 v H' F' (g2.callee b (fun a h => by cases h) (fun a h => by cases h)) b.ff (retOk_rep g2 (fun j s e1 e2 => ⟨s, e1, e2⟩) rr)
  refine thn (hkw.run pos pins s σ H _ I h0) ?_
  rintro us s2 ⟨zs, H2, I2, rz, l2, q2⟩
  refine ⟨I2.kIn, ?_⟩
  rw [hks]
  have r2 := hb.rel (vs := []) (us := []) .nil rz
  have bt := hb.to s2 [] us I2.kIn rfl (rz.length.symm.trans l2)
  refine wpAny_call (codeAny_mono (F.run X.A X.stack s2 H2 ⟨[], ks.zip us⟩ (gg [] us) (pm π zs) Q (fun cls d H' => Z.W cls d σ H') hx.r hx.g I2.env0 bt r2 q2) ?_)
  intro r s' hq
  cases r with
  | error e => exact tk e s' (XE.of_call I2 (fun _ _ _ z => z) hq)
  | ok fl =>
    cases fl with
    | ret u => exact I2.after hq
    | next => exact False.elim hq
    | brk => exact False.elim hq
    | cont => exact False.elim hq
end
theorem cal_p0 {P : Program} {w : World} {K : PySem.W.Frag} {mg : PySem.Str → Option Value} {base h : Heap} {k : Nat} {x : PySem.Str} {params : Arguments} {body : List Stmt} {scope : Scope} {fd : FuncData} {ps : List PySem.Str} {sp : Sp} (ks : List PySem.Str) (π : List Nat)
    (X : K.In h) (G : h.Ns mainGlobals mg) (g : (He.Fa.glo x).ok K = true) (F : FunD K x x params body scope [] [] (He.ga K x) fd) (fn : FnG P w K mg base k (He.ga K x) fd ps sp)
    (b : ∀ (kV doc pm' : Value) (an : Option Addr) (cdv ct : Value) (ws : List Value), ws.length = ks.length → bindArgs (PySem.W.fnOf x x params body scope .none kV doc pm' an cdv ct) ⟨[], ks.zip ws⟩ = pure (ps.zip (pm π ws))) : Cal P w K mg base k x 0 ks (fun _ zs => pm π zs) sp := by
  refine ⟨_, fd, ps, fun _ ws => pm π ws, He.glo_ok X G g, F.kp, fn, ?_⟩
  obtain ⟨oc, od, dV, kV, doc, pm', an, cdv, ct, osl, rfl, lk, hcd, hD, hK⟩ := F.ex
  rcases hD with ⟨_, rfl⟩ | ⟨e, _⟩
  · constructor
    · intro s us ws KX l1 l2
      have : us = [] := List.length_eq_zero_iff.mp l1
      subst this
      exact .of_eq (b kV doc pm' an cdv ct ws l2)
    · exact fun _ r2 => pm_vals r2
  · exact absurd rfl e
/-! ### range with a step -/
def rngC (lo c : Int) (n : Nat) : List D := (List.range n).map fun k => .int (lo + (k : Nat) * c)
theorem rngC_len {lo c : Int} {n : Nat} : (rngC lo c n).length = n := by
  unfold rngC
  rw [List.length_map, List.length_range]
theorem rngC_get {lo c : Int} {n k : Nat} {d : D} (h : (rngC lo c n)[k]? = some d) : d = .int (lo + (k : Nat) * c) := by
  unfold rngC at h
  rw [List.getElem?_map] at h
  cases e : (List.range n)[k]? with
  | none => rw [e] at h; cases h
  | some j =>
    rw [e] at h
    cases h
    obtain ⟨_, e2⟩ := List.getElem?_eq_some_iff.mp e
    rw [List.getElem_range] at e2
    rw [e2]
theorem it_rngC {G : Gd} {F : Hp} {lo c : Int} {n : Nat} : ItRep G (Itc lo c n) F (rngC lo c n) where
  go := fun k F1 H1 e1 e2 hk => by rw [rngC_len] at hk; exact hk
  stop := fun k F1 H1 e1 e2 hk => by rw [rngC_len] at hk; exact hk
  yld := fun k d F1 H1 x H2 e1 e2 hd hy => by
    obtain ⟨rfl, rfl⟩ := hy
    rw [rngC_get hd]
    exact .inl ⟨rfl, .int _⟩
def rg3D : List D → Option (List D)
  | [.int i, .int j, .int c] => if c ≠ 0 ∧ c.natAbs < 1073741824 ∧ Builtin.Range.small i j c = true ∧ 0 ≤ Builtin.Range.rangeSize i j c then some (rngC i c (Builtin.Range.rangeSize i j c).toNat) else none
  | _ => none
def rg3K (ds : List D) (e : FE.Env) : OI := match rg3D ds with
  | some xs => .ok xs e
  | none => .bad
def iRg3 (os : FE.Env → OA) : FE.Env → OI := fun env => (os env).bindI rg3K
theorem e_iRg3 (os : FE.Env → OA) (env : FE.Env) : iRg3 os env = (os env).bindI rg3K := (rfl)
theorem e_rg3K (ds : List D) (e : FE.Env) : rg3K ds e = okI (rg3D ds) e := by
  unfold rg3K okI
  rfl
section
variable {X : Cx} {Z : Zd} {a b c tg : Expr} {os : FE.Env → OA} {p pos : Pos}
theorem n_rng3 (hm : X.mg "range" = none) (ha : PA X [a, b, c] (tA Z os)) (hg : Gl X "range" := by rfl) (hs : starEach [a, b, c] X.env = (false, eval a X.env) :: starEach [b, c] X.env := by rfl) (hpl : (backTo pos (starEach [b, c] X.env)).any (·.1) = false := by rfl) : PI X tg (.Call (.Name "range" p) [a, b, c] [] pos) (tI Z (iRg3 os)) := by
  refine PI.imp (pi_range3 hg hm ha hs hpl) fun σ H Q ⟨F, env, g, h⟩ => ?_
  have h' : PostI Z F σ Q ((os env).bindI rg3K) := h
  refine seqAI g h' fun ds env1 vs H1 F1 g1 x1 r1 h1 => ?_
  unfold rg3K at h1
  cases q : rg3D ds with
  | none => rw [q] at h1; exact h1.elim
  | some xs =>
    rw [q] at h1
    unfold rg3D at q
    split at q
    case h_2 => cases q
    rename_i i j k
    split at q
    case isFalse => cases q
    rename_i c
    cases q
    cases r1 with
    | cons r rr =>
      cases rr with
      | cons r' rr =>
        cases rr with
        | cons r'' rr =>
          cases rr
          cases r
          cases r'
          cases r''
          exact ⟨i, j, k, _, rfl, ⟨c.1, c.2.1, c.2.2.1, (Int.toNat_of_nonneg c.2.2.2).symm⟩, h1 _ H1 F1 g1 (Ex.refl F1) it_rngC⟩
end
theorem e_pm {α : Type} (π : List Nat) (xs : List α) : pm π xs = π.filterMap (xs[·]?) := (rfl)
end FE

namespace FE
open PySem PySem.Spec PyProof.Rows L2
/-! ### from the end -/
theorem pick_rev {α : Type} (xs : List α) : pickL xs none none (some (-1)) = xs.reverse := by
  have b : sliceBounds none none (some (-1)) xs.length = ((xs.length : Int) - 1, -1, -1) := by
    first | rfl | (unfold sliceBounds; rfl)
  unfold pickL
  rw [b]
  dsimp only
  rw [PySem.W.krv_sliceRange]
  refine List.ext_getElem? fun i => ?_
  have key : ∀ l : List Nat, (∀ k ∈ l, k < xs.length) → ∀ i : Nat, ((l.filterMap (xs[·]?))[i]?) = (l[i]?).bind (xs[·]?) := by
    intro l
    induction l with
    | nil => intro _ i; rfl
    | cons k l ih =>
      intro h i
      have hk := h k List.mem_cons_self
      rw [List.filterMap_cons, List.getElem?_eq_getElem hk]
      dsimp only
      cases i with
      | zero => rw [List.getElem?_cons_zero, List.getElem?_cons_zero]; exact (List.getElem?_eq_getElem hk).symm
      | succ i =>
        rw [List.getElem?_cons_succ, List.getElem?_cons_succ]
        exact ih (fun j hj => h j (List.mem_cons_of_mem _ hj)) i
  rw [key _ (fun k hk => by
    obtain ⟨j, hj, rfl⟩ := List.mem_map.mp hk
    have := List.mem_range.mp hj
    omega)]
  by_cases hi : i < xs.length
  · rw [List.getElem?_reverse hi, List.getElem?_map, List.getElem?_range hi]
    rfl
  · rw [List.getElem?_eq_none (by rw [List.length_map, List.length_range]; omega), List.getElem?_eq_none (l := xs.reverse) (by rw [List.length_reverse]; omega)]
    rfl
/-! ### worths -/
def sizeT (s : List PySem.Str) (cs : List Int) (t : Tm) : Int := ((regT s t).map fun r => cs.getD r 0).sum
def worthA (s m : List PySem.Str) (cs vs : List Int) : Ad → Int
  | .lot c => c
  | .num c z => c * vs.getD (m.idxOf z) 0
  | .size c t => c * sizeT s cs t
def worthS (s m : List PySem.Str) (cs vs : List Int) (as : List Ad) : Int := (as.map (worthA s m cs vs)).sum
theorem worthS_cons (s m : List PySem.Str) (cs vs : List Int) (a : Ad) (as : List Ad) : worthS s m cs vs (a :: as) = worthA s m cs vs a + worthS s m cs vs as := by
  unfold worthS
  rw [List.map_cons, List.sum_cons]
theorem dot_addAt (c : Int) : ∀ (row X : List Int) (p : Nat), p < row.length → p < X.length → dot (addAt row p c) X = dot row X + c * X.getD p 0
  | [], _, p, h, _ => absurd h (Nat.not_lt_zero _)
  | _ :: _, [], p, _, h => absurd h (Nat.not_lt_zero _)
  | x :: row, y :: X, 0, _, _ => by
    show (x + c) * y + dot row X = x * y + dot row X + c * y
    rw [Int.add_mul]
    omega
  | x :: row, y :: X, p + 1, h1, h2 => by
    have ih := dot_addAt c row X p (by simpa using h1) (by simpa using h2)
    show x * y + dot (addAt row p c) X = x * y + dot row X + c * X.getD p 0
    rw [ih]
    omega
theorem dot_addAll (c : Int) (X : List Int) : ∀ (ps : List Nat) (row : List Int), (∀ p ∈ ps, p < row.length ∧ p < X.length) → dot (addAll c row ps) X = dot row X + c * (ps.map fun p => X.getD p 0).sum
  | [], row, _ => by
    show dot row X = dot row X + c * 0
    rw [Int.mul_zero]
    omega
  | p :: ps, row, h => by
    have hp := h p List.mem_cons_self
    show dot (addAll c (addAt row p c) ps) X = _
    rw [dot_addAll c X ps (addAt row p c) fun q hq => by rw [addAt_len]; exact h q (List.mem_cons_of_mem _ hq), dot_addAt c row X p hp.1 hp.2, List.map_cons, List.sum_cons, Int.mul_add]
    omega
section
variable {s m : List PySem.Str} {cs vs : List Int}
theorem place_sum (hc : cs.length = 2 ^ s.length) (hv : vs.length = m.length) (a : Ad) (ha : a.good s m) : a.coef * ((a.places s m).map fun p => (1 :: (cs ++ vs)).getD p 0).sum = worthA s m cs vs a := by
  cases a with
  | lot c =>
    show c * (1 + 0) = c
    omega
  | num c z =>
    show c * ((1 :: (cs ++ vs)).getD (1 + (m.idxOf z + 2 ^ s.length)) 0 + 0) = c * vs.getD (m.idxOf z) 0
    rw [Int.add_zero]
    congr 1
    rw [show 1 + (m.idxOf z + 2 ^ s.length) = (cs.length + m.idxOf z) + 1 by omega]
    show (cs ++ vs).getD (cs.length + m.idxOf z) 0 = _
    unfold List.getD
    rw [List.getElem?_append_right (Nat.le_add_right _ _), Nat.add_sub_cancel_left]
  | size c t =>
    show c * (((regT s t).map (1 + ·)).map fun p => (1 :: (cs ++ vs)).getD p 0).sum = c * ((regT s t).map fun r => cs.getD r 0).sum
    rw [List.map_map]
    congr 2
    refine List.map_congr_left fun r hr => ?_
    have := regT_lt hr
    show (1 :: (cs ++ vs)).getD (1 + r) 0 = cs.getD r 0
    rw [Nat.add_comm 1 r]
    show (cs ++ vs).getD r 0 = cs.getD r 0
    unfold List.getD
    rw [List.getElem?_append_left (by omega)]
theorem worth_fold (hc : cs.length = 2 ^ s.length) (hv : vs.length = m.length) : ∀ (as : List Ad) (row : List Int), row.length = 1 + (2 ^ s.length + m.length) → (∀ a ∈ as, a.good s m) → dot (as.foldl (stepA s m) row) (1 :: (cs ++ vs)) = dot row (1 :: (cs ++ vs)) + worthS s m cs vs as
  | [], row, _, _ => by
    show dot row _ = dot row _ + 0
    omega
  | a :: as, row, hl, ho => by
    have oa := ho a List.mem_cons_self
    have hX : (1 :: (cs ++ vs)).length = row.length := by
      rw [List.length_cons, List.length_append]
      omega
    show dot (as.foldl (stepA s m) (stepA s m row a)) _ = _
    rw [worth_fold hc hv as (stepA s m row a) (by rw [stepA_len]; exact hl) fun x hx => ho x (List.mem_cons_of_mem _ hx), worthS_cons]
    have e : dot (stepA s m row a) (1 :: (cs ++ vs)) = dot row (1 :: (cs ++ vs)) + worthA s m cs vs a := by
      rw [← place_sum hc hv a oa]
      refine dot_addAll a.coef _ (a.places s m) row fun p hp => ?_
      have := a.places_lt oa hp
      omega
    rw [e]
    omega
theorem rwv_dot : ∀ (row : List Int) (X : List Int), rwv row X = dot row (1 :: X)
  | [], _ => rfl
  | x :: row, X => by
    show x + dot row X = x * 1 + dot row X
    omega
theorem worth_row (hc : cs.length = 2 ^ s.length) (hv : vs.length = m.length) {as : List Ad} (ho : ∀ a ∈ as, a.good s m) : rwv (rowA s m as) (cs ++ vs) = worthS s m cs vs as := by
  rw [rwv_dot]
  unfold rowA
  rw [worth_fold hc hv as (rowZ s m) (rowZ_len s m) ho]
  unfold rowZ
  rw [dot_zero]
  omega
theorem sum_or (f : Nat → Int) (p q : Nat → Bool) (h : ∀ r, ¬ (p r = true ∧ q r = true)) : ∀ l : List Nat, ((l.filter fun r => p r || q r).map f).sum = ((l.filter p).map f).sum + ((l.filter q).map f).sum
  | [] => rfl
  | r :: l => by
    have ih := sum_or f p q h l
    have hr := h r
    cases hp : p r <;> cases hq : q r
    · simp only [List.filter_cons, hp, hq, Bool.or_self, Bool.false_eq_true, if_false]
      exact ih
    · simp only [List.filter_cons, hp, hq, Bool.or_true, Bool.false_eq_true, if_false, if_true, List.map_cons, List.sum_cons]
      omega
    · simp only [List.filter_cons, hp, hq, Bool.or_false, Bool.false_eq_true, if_false, if_true, List.map_cons, List.sum_cons]
      omega
    · exact absurd ⟨hp, hq⟩ hr
theorem size_or (a b : Tm) : sizeT s cs (.bin "or" (.bin "but" a b) (.bin "but" b a)) = sizeT s cs (.bin "but" a b) + sizeT s cs (.bin "but" b a) := by
  unfold sizeT regT
  refine sum_or (fun r => cs.getD r 0) (fun r => (Tm.bin "but" a b).holds s r) (fun r => (Tm.bin "but" b a).holds s r) (fun r h => ?_) _
  have h1 : (a.holds s r && !b.holds s r) = true := h.1
  have h2 : (b.holds s r && !a.holds s r) = true := h.2
  cases q : a.holds s r <;> rw [q] at h1 h2 <;> simp at h1 h2
end
/-! ### sayings -/
inductive Sy where
  | cmp (w : PySem.Str) (a b : List Ad) | parts (n : Int) (a : List Ad) | tm (w : PySem.Str) (a b : Tm) | not (a : Sy) | bin (w : PySem.Str) (a b : Sy)
def Sy.enc : Sy → D
  | .cmp w a b => .tup [.str w, .tup (adsL a), .tup (adsL b)]
  | .parts n a => .tup [.str "parts", .int n, .tup (adsL a)]
  | .tm w a b => .tup [.str w, a.enc, b.enc]
  | .not a => .tup [.str "not", a.enc]
  | .bin w a b => .tup [.str w, a.enc, b.enc]
def AdsOk (s m : List PySem.Str) (as : List Ad) : Prop := as.length ≤ 50 ∧ ∀ a ∈ as, a.ok s m
def Sy.ok (s m : List PySem.Str) : Sy → Prop
  | .cmp w a b => (w = "atmost" ∨ w = "equal") ∧ AdsOk s m a ∧ AdsOk s m b
  | .parts n a => (1 < n ∧ n ≤ 10 ^ 30) ∧ AdsOk s m a
  | .tm w a b => (w = "within" ∨ w = "same") ∧ (a.ok s ∧ a.deep ≤ 12 ∧ a.bulk ≤ 1800) ∧ b.ok s ∧ b.deep ≤ 12 ∧ b.bulk ≤ 1800
  | .not a => a.ok s m
  | .bin w a b => (w = "both" ∨ w = "either") ∧ a.ok s m ∧ b.ok s m
def Sy.deep : Sy → Nat
  | .not a => a.deep + 1
  | .bin _ a b => max a.deep b.deep + 1
  | _ => 0
def Sy.nodes : Sy → Nat
  | .not a => a.nodes + 1
  | .bin _ a b => a.nodes + b.nodes + 1
  | _ => 1
def Sy.truth (s m : List PySem.Str) (cs vs : List Int) : Sy → Bool
  | .cmp w a b => if w = "atmost" then decide (worthS s m cs vs a ≤ worthS s m cs vs b) else decide (worthS s m cs vs a = worthS s m cs vs b)
  | .parts n a => decide (worthS s m cs vs a % n = 0)
  | .tm w a b => if w = "within" then decide (sizeT s cs (.bin "but" a b) = 0) else decide (sizeT s cs (.bin "but" a b) + sizeT s cs (.bin "but" b a) = 0)
  | .not a => !(a.truth s m cs vs)
  | .bin w a b => if w = "both" then (a.truth s m cs vs && b.truth s m cs vs) else (a.truth s m cs vs || b.truth s m cs vs)
def Sy.kids : Sy → List Sy
  | .not a => [a]
  | .bin _ a b => [a, b]
  | _ => []
def Sy.pre : Sy → List Sy
  | .not a => .not a :: a.pre
  | .bin w a b => .bin w a b :: (a.pre ++ b.pre)
  | x => [x]
theorem Sy.pre_kids : ∀ x : Sy, x.pre = x :: (x.kids.map Sy.pre).flatten
  | .not a => by simp [Sy.pre, Sy.kids]
  | .bin w a b => by simp [Sy.pre, Sy.kids]
  | .cmp _ _ _ => rfl
  | .parts _ _ => rfl
  | .tm _ _ _ => rfl
theorem Sy.pre_len : ∀ x : Sy, x.pre.length = x.nodes
  | .not a => by
    show a.pre.length + 1 = a.nodes + 1
    rw [Sy.pre_len a]
  | .bin w a b => by
    show (a.pre ++ b.pre).length + 1 = a.nodes + b.nodes + 1
    rw [List.length_append, Sy.pre_len a, Sy.pre_len b]
  | .cmp _ _ _ => rfl
  | .parts _ _ => rfl
  | .tm _ _ _ => rfl
def syL (xs : List Sy) : List D := xs.map Sy.enc
theorem syL_len (xs : List Sy) : (syL xs).length = xs.length := List.length_map _
theorem syL_app (xs ys : List Sy) : syL xs ++ syL ys = syL (xs ++ ys) := by
  unfold syL
  rw [List.map_append]
theorem syL_rev (xs : List Sy) : (syL xs).reverse = syL xs.reverse := by
  unfold syL
  rw [List.map_reverse]
/-- what waits, the last one first -/
def preW (W : List Sy) : List Sy := (W.reverse.map Sy.pre).flatten
theorem preW_snoc (W : List Sy) (x : Sy) : preW (W ++ [x]) = x.pre ++ preW W := by
  unfold preW
  rw [List.reverse_append]
  rfl
theorem preW_kids (W : List Sy) (x : Sy) : x :: preW (W ++ x.kids.reverse) = preW (W ++ [x]) := by
  rw [preW_snoc, Sy.pre_kids x]
  unfold preW
  rw [List.reverse_append, List.reverse_reverse, List.map_append, List.flatten_append]
  rfl
theorem Sy.nodes_pos : ∀ x : Sy, 1 ≤ x.nodes
  | .not a => Nat.le_add_left _ _
  | .bin w a b => Nat.le_add_left _ _
  | .cmp _ _ _ => Nat.le_refl _
  | .parts _ _ => Nat.le_refl _
  | .tm _ _ _ => Nat.le_refl _
end FE

namespace FE
open PySem PySem.Spec PyProof.Rows L2
/-! ### t[::-1], t a tuple -/
section
open HT
variable {prog : Program} {w : World} {A : Around} {E : Value → Shared → Prop} {s : Shared}
theorem applied_rev {sl : Addr} {vl vu vc : Value} {n : Nat} {Q : Int × Int × Nat → Shared → Prop} (hs : s.heap.IsSliceOf sl vl vu vc) (pl : IsPart vl none) (pu : IsPart vu none) (pc : IsPart vc (some (-1)))
    (h : Q ((n : Int) - 1, -1, n) s) : wpAny (model prog w) A (Builtin.Slice.sliceApplied (.ref sl) (pure (n : Int))) Q E s := by
  obtain ⟨os, hos, hcs, hds⟩ := id hs
  unfold Builtin.Slice.sliceApplied Builtin.Slice.sliceFields
  refine wpAny_bind (wpAny_bind (wpAny_field hos hds (x := vl) rfl (wpAny_bind (wpAny_field hos hds (x := vu) rfl (wpAny_bind (wpAny_field hos hds (x := vc) rfl (wpAny_pure ?_)))))))
  refine wpAny_bind (slicePart_ pc ?_)
  show wpAny _ _ (if ((-1 : Int) == 0) = true then _ else _) _ _ s
  rw [if_neg (by decide)]
  refine wpAny_bind (slicePart_ pl (wpAny_bind (slicePart_ pu (wpAny_bind (wpAny_pure ?_)))))
  show wpAny _ _ (pure ((n : Int) - 1, (-1 : Int), Builtin.Slice.slicePlaces ((n : Int) - 1) (-1) (-1))) _ _ s
  have e : Builtin.Slice.slicePlaces ((n : Int) - 1) (-1) (-1) = n := by
    unfold Builtin.Slice.slicePlaces
    have h1 : ¬ ((-1 : Int) > 0) := by decide
    have h2 : (- -1 : Int) = 1 := by decide
    simp only [h1, if_false, h2, Int.ediv_one]
    split <;> omega
  rw [e]
  exact wpAny_pure h
theorem picks_rev (xs : Array Value) : ((List.range xs.size).filterMap fun (k : Nat) => xs[((xs.size : Int) - 1 + (k : Int) * -1).toNat]?).toArray = xs.toList.reverse.toArray := by
  have e : (fun (k : Nat) => xs[((xs.size : Int) - 1 + (k : Int) * -1).toNat]?) = (xs[·]?) ∘ fun k => xs.size - 1 - k := by
    funext k
    show xs[((xs.size : Int) - 1 + (k : Int) * -1).toNat]? = xs[xs.size - 1 - k]?
    have : ((xs.size : Int) - 1 + (k : Int) * -1).toNat = xs.size - 1 - k := by omega
    rw [this]
  rw [e, ← List.filterMap_map, PySem.W.krv_range, List.filterMap_reverse, PySem.W.krv_all]
theorem getItem_tup_rev {t sl : Addr} {items : Array Value} {vl vu vc : Value} {Q : Value → Shared → Prop} (ht : IsTup s.heap t items) (hs : s.heap.IsSliceOf sl vl vu vc) (pl : IsPart vl none) (pu : IsPart vu none) (pc : IsPart vc (some (-1)))
    (h : Q (.ref s.heap.objs.size) { s with heap := s.heap.push { cls := .type "tuple", data := .seq items.toList.reverse.toArray } })
    (hsz : items.size ≤ sizeLine) : wpAny (model prog w) A (getItem (.ref t) (.ref sl)) Q E s := by
  have htake : sizeOk (.seq items.toList.reverse.toArray) := by
    show items.toList.reverse.toArray.size ≤ sizeLine
    rw [List.size_toArray, List.length_reverse, Array.length_toList]
    exact hsz
  obtain ⟨os, hos, hcs, hds⟩ := id hs
  have hTs : s.TypeIs (.ref sl) "slice" := ⟨os, hos, hcs⟩
  unfold getItem
  try with_reducible refine wpAny_holding ?_
  first | refine wpAny_bind (wpAny_pure ?_) | skip
  refine wpAny_bind (wpAny_sequenceKey ht.typeIs (by decide) ?_)
  refine wpAny_bind (wpAny_callSpecial?_slot (name := Str.ofString "__getitem__") ht.typeIs PyProof.Rows.slot_tuple_getitem
    (wpAny_call_entry PyProof.Rows.slot_tuple_getitem ht.typeIs entry_tuple_getitem ?_ (args_tuple_getitem _ _)))
  show wpAny _ _ (Builtin.Tuple.tupleItemsOf (.ref t) >>= _) _ _ s
  refine wpAny_bind (tupleItemsOf_ ht ?_)
  refine wpAny_bind (wpAny_typeOf hTs ?_)
  rw [if_pos (by decide)]
  refine wpAny_bind (applied_rev hs pl pu pc ?_)
  have hno : ¬ ((((items.size : Int) - 1 == 0) && ((-1 : Int) == 1) && (items.size == items.size)) = true) := by
    intro q
    rw [Bool.and_eq_true, Bool.and_eq_true] at q
    exact absurd q.1.2 (by decide)
  show wpAny _ _ (if (((items.size : Int) - 1 == 0) && ((-1 : Int) == 1) && (items.size == items.size)) = true then _ else _) _ _ s
  rw [if_neg hno, picks_rev]
  first
    | exact wpAny_bind (m := Builtin.Tuple.tupleExact _) (wpAny_newObj_type (wpAny_pure ⟨_, rfl, wpAny_pure h⟩) htake)
    | exact wpAny_bind (m := Builtin.Tuple.tupleExact _) (wpAny_newObj_type (wpAny_bind (wpAny_pure (wpAny_pure ⟨_, rfl, wpAny_pure h⟩))) htake)
    | exact wpAny_bind (wpAny_bind (m := Builtin.Tuple.tupleExact _) (wpAny_newObj_type (wpAny_pure (wpAny_pure ⟨_, rfl, wpAny_pure h⟩)) htake))
    | exact wpAny_bind (wpAny_bind (m := Builtin.Tuple.tupleExact _) (wpAny_newObj_type (wpAny_pure ⟨_, rfl, wpAny_pure h⟩) htake))
end
def tSlR (K : PySem.W.Frag) (te : TE) (tl th ts : TO) : TE := fun σ H Q => te σ H fun x H1 => tl σ H1 fun l H2 => th σ H2 fun u H3 => ts σ H3 fun c H4 => l = none ∧ u = none ∧ c = some (-1) ∧ ∃ a xs, x = .ref a ∧ SqT K H4 a xs ∧ ∀ (p : Addr) (o : Obj), H4 p = none → o.dict = none → Q (.ref p) (upd H4 p (.frz o (.tup xs.reverse)))
section
variable {X : Cx} {a : Expr}
theorem pe_sliceR {te : TE} {tl th ts : TO} {lo hi : Option Expr} {sc : Expr} {p2 pos : Pos} (he : PE X a te) (hl : PO X lo tl) (hu : PO X hi th) (hs : PO X (some sc) ts) : PE X (.Subscript a (.Slice lo hi (some sc) p2) pos) (tSlR X.K te tl th ts) := by
  constructor
  intro pins s σ H Q I h
  apply Subscript_
  refine thn (he.run pins s σ H _ I h) ?_
  rintro v s1 ⟨x, H1, I1, r1, q1⟩
  apply wpAny_Slice
  refine thn (hl.run pins s1 σ H1 _ I1 q1) ?_
  rintro vl s2 ⟨l, H2, I2, pl, q2⟩
  refine thn (hu.run pins s2 σ H2 _ I2 q2) ?_
  rintro vu s3 ⟨u, H3, I3, pu, q3⟩
  refine thn (hs.run pins s3 σ H3 _ I3 q3) ?_
  rintro vc s4 ⟨c, H4, I4, pc, rfl, rfl, rfl, a, xs, rfl, hx, q4⟩
  have grown : ∀ (b : Addr) (ob : Obj), s4.heap.get? b = some ob → (s4.heap.push { cls := .type "slice", data := .fields #[vl, vu, vc] }).get? b = some ob := fun b ob z => Heap.get?_push_of_some _ z
  have I5 : Inv X pins σ H4 ⟨s4.heap.push { cls := .type "slice", data := .fields #[vl, vu, vc] }, s4.gens, s4.drawn, s4.toks, s4.os⟩ := I4.kept (t' := s4.toks) grown
  cases r1
  obtain ⟨its, r, ht, hz⟩ := I5.tuple hx
  have hlen := r.length
  refine tail_any (T := "tuple") (ops := [.ref a, .ref s4.heap.objs.size]) ht.typeIs PyProof.Rows.slot_tuple_getitem.lookup ?_ (by with_unfolding_all rfl)
  refine getItem_tup_rev ht (Heap.IsSliceOf.new ..) pl pu pc ?_ (by rw [List.size_toArray]; omega)
  refine ⟨.ref _, _, I5.laid (t' := s4.toks) (o := .frz { cls := .type "tuple", data := .seq its.reverse.toArray } (.tup xs.reverse)) (fun b ob z => Heap.get?_push_of_some _ z) (Nat.le_refl _) ?_, rfl, q4 _ _ (I5.hok.fresh (Nat.le_refl _)) rfl⟩
  have vr := vals_rev r
  exact ⟨Heap.get?_push_size _ rfl, by rw [List.length_reverse]; exact hz, its.reverse, vr, ⟨_, Heap.get?_push_size _ rfl, rfl, _, rfl⟩⟩
end
def s3Q (e : FE.Env) : D → Option (Option Int) → Option (Option Int) → Option (Option Int) → OE
  | .lst ds, some l, some h, some c => if c = some 0 then .bad else .ok (.ow (pickL ds l h c)) e
  | .tup ds, some none, some none, some (some c) => if c = -1 then .ok (.sh (.tup ds.reverse)) e else .bad
  | _, _, _, _ => .bad
def s3Q4 (r1 r2 r3 r4 : R) (e : FE.Env) : OE := s3Q e r1.fz (partO r2.fz) (partO r3.fz) (partO r4.fz)
def s3Q3 (oc : FE.Env → OE) (r1 r2 r3 : R) (e : FE.Env) : OE := (oc e).bind (s3Q4 r1 r2 r3)
def s3Q2 (oh oc : FE.Env → OE) (r1 r2 : R) (e : FE.Env) : OE := (oh e).bind (s3Q3 oc r1 r2)
def s3Q1 (ol oh oc : FE.Env → OE) (r1 : R) (e : FE.Env) : OE := (ol e).bind (s3Q2 oh oc r1)
def oSl3Q (oa ol oh oc : FE.Env → OE) : FE.Env → OE := fun env => (oa env).bind (s3Q1 ol oh oc)
theorem e_sl3Q (oa ol oh oc : FE.Env → OE) (env : FE.Env) : oSl3Q oa ol oh oc env = (oa env).bind (s3Q1 ol oh oc) := (rfl)
theorem e_s3Q1 (ol oh oc : FE.Env → OE) (r1 : R) (e : FE.Env) : s3Q1 ol oh oc r1 e = (ol e).bind (s3Q2 oh oc r1) := (rfl)
theorem e_s3Q2 (oh oc : FE.Env → OE) (r1 r2 : R) (e : FE.Env) : s3Q2 oh oc r1 r2 e = (oh e).bind (s3Q3 oc r1 r2) := (rfl)
theorem e_s3Q3 (oc : FE.Env → OE) (r1 r2 r3 : R) (e : FE.Env) : s3Q3 oc r1 r2 r3 e = (oc e).bind (s3Q4 r1 r2 r3) := (rfl)
theorem e_s3Q4 (r1 r2 r3 r4 : R) (e : FE.Env) : s3Q4 r1 r2 r3 r4 e = s3Q e r1.fz (partO r2.fz) (partO r3.fz) (partO r4.fz) := (rfl)
theorem e_s3Q_l (e : FE.Env) (ds : List D) (l h c : Option Int) : s3Q e (.lst ds) (some l) (some h) (some c) = if c = some 0 then .bad else .ok (.ow (pickL ds l h c)) e := (rfl)
theorem e_s3Q_t (e : FE.Env) (ds : List D) : s3Q e (.tup ds) (some none) (some none) (some (some (-1))) = .ok (.sh (.tup ds.reverse)) e := (rfl)
section
variable {X : Cx} {Z : Zd} {a : Expr} {oa : FE.Env → OE}
theorem n_slice3Q {lo hi : Option Expr} {sc : Expr} {ol oh oc : FE.Env → OE} {p2 pos : Pos} (hK : Z.G.K = X.K) (ha : PE X a (tE Z oa)) (hl : PO X lo (tP Z ol)) (hh : PO X hi (tP Z oh)) (hc : PO X (some sc) (tP Z oc)) : PE X (.Subscript a (.Slice lo hi (some sc) p2) pos) (tE Z (oSl3Q oa ol oh oc)) := by
  refine PE.imp (PE.or (n_slice3 hK ha hl hh hc) (pe_sliceR ha hl hh hc)) fun σ H Q ⟨F, env, g, h⟩ => ?_
  have left : oSl3Q oa ol oh oc env = oSl3 oa ol oh oc env → tE Z (oSl3 oa ol oh oc) σ H Q := fun e => ⟨F, env, g, by rw [← e]; exact h⟩
  cases e : oa env with
  | bad =>
    refine .inl (left ?_)
    unfold oSl3Q oSl3
    rw [e]
    rfl
  | exc x env1 =>
    refine .inl (left ?_)
    unfold oSl3Q oSl3
    rw [e]
    rfl
  | ok r e1 =>
    cases q : r.fz
    case tup ds =>
      refine .inr ⟨F, env, g, ?_⟩
      have h' : PostE Z F σ Q (s3Q1 ol oh oc r e1) := by
        unfold oSl3Q at h
        rw [e] at h
        exact h
      rw [e]
      intro v H1 F1 g1 x1 rp1
      obtain ⟨F2, g2, x2, r2⟩ := g1.give rp1
      rw [q] at r2
      replace h' := PostE.up (x1.trans x2) h'
      unfold s3Q1 at h'
      refine seqP g2 h' fun r2' env2 l H2 F3 g3 x3 e2 h2 => ?_
      unfold s3Q2 at h2
      refine seqP g3 h2 fun r3 env3 u H3 F4 g4 x4 e3 h3 => ?_
      unfold s3Q3 at h3
      refine seqP g4 h3 fun r4 env4 c H4 F5 g5 x5 e4 h4 => ?_
      unfold s3Q4 at h4
      rw [q] at h4
      unfold s3Q at h4
      split at h4
      · rename_i k1 _ _ _; cases k1
      · rename_i k1 k2 k3 k4
        cases k1
        split at h4
        case isFalse => exact h4.elim
        rename_i hc1
        subst hc1
        have z1 := e2 _ k2
        have z2 := e3 _ k3
        have z3 := e4 _ k4
        cases r2 with
        | tup n1 n2 =>
          refine ⟨z1.symm, z2.symm, z3.symm, _, _, rfl, by rw [← hK]; exact g5.fh.t ((x3.trans (x4.trans x5)).t n1.t), fun p o hp ho => ?_⟩
          exact h4 _ _ _ (g5.layF hp) (Ex.new (g5.fresh hp)) (.tup (.new ho) (((n2.mono (x3.trans (x4.trans x5))).reverse).mono (Ex.new (g5.fresh hp))))
      · exact h4.elim
    all_goals
      refine .inl (left ?_)
      unfold oSl3Q
      rw [e_sl3, e]
      show s3Q1 ol oh oc r e1 = s3K1 ol oh oc r e1
      unfold s3Q1 s3K1 s3Q2 s3K2 s3Q3 s3K3 s3Q4 s3K4
      congr 1
      funext r2 e2
      congr 1
      funext r3 e3
      congr 1
      funext r4 e4
      rw [q]
      cases partO r2.fz <;> cases partO r3.fz <;> cases partO r4.fz <;> rfl
end
theorem cut_one {α : Type} (x : α) (xs : List α) : cutL (x :: xs) (some 1) none = xs := by
  have e := cut_hi (x :: xs) 1
  rw [show (some ((1 : Nat) : Int)) = some 1 from rfl] at e
  rw [e]
  rfl
theorem e_popL2 (i : Nat) (e : FE.Env) (ds : List D) : popL i e (some ds) = if ds = [] then .bad else popO i (ds.length - 1) e ds ds[ds.length - 1]? := (rfl)
end FE

namespace FE
open PySem PySem.Spec PyProof.Rows L2
/-! ### comprehensions of any number of clauses -/
/-- one turn of a clause's loop; body: what is done where its tests hold, ahead of what is left -/
def turnF (lc : Expr) (k : Nat) (tg : Expr) (p : Pos) (ifs : List Expr) (body : Sem Fin → Sem Fin) (it acc : Value) (env : PySem.Env) : Sem Fin := do
  standAt p
  match ← pyNext it with
  | none => pure (.done .next)
  | some v =>
    letOwnedTupleGo tg it v
    assign tg env v
    let mut ok := true
    for c in ifs do
      if ok then ok ← isTrue c env (eval c env)
    if ok then body (again (.compLoop lc k it acc env)) else again (.compLoop lc k it acc env)
def bodyE (elt : Expr) (acc : Value) (env : PySem.Env) (rest : Sem Fin) : Sem Fin := (do let _ ← call (.builtin "list.append") [acc, ← eval elt env] : Sem Unit) >>= fun _ => rest
def bodyC (lc : Expr) (k : Nat) (iter : Expr) (acc : Value) (env : PySem.Env) (rest : Sem Fin) : Sem Fin := do
  let x ← eval iter env
  standAt iter.pos
  let x ← foldedSetIterable iter env x
  let _ ← runOwn (.compStart lc k (← holding [x] (pyIter x)) acc env) env
  rest
section
variable {prog : Program} {w : World} {A : Around} {R : Result → Shared → Prop} {s : Shared} {elt tg : Expr} {ifs : List Expr} {gs : List Comprehension} {scope : Scope} {pos p : Pos} {it acc : Value} {env : PySem.Env} {k : Nat} {body : Sem Fin → Sem Fin}
theorem compLoopG (ht : compTurn (.ListComp elt gs scope pos) k it acc env = turnF (.ListComp elt gs scope pos) k tg p ifs body it acc env) (I : Nat → Shared → Prop)
    (turn : ∀ n s, I n s → wpAny (model prog w) A (pyNext it) (fun r s₁ => match r with
      | none => R (.ok .next) s₁
      | some v => wpAny (model prog w) A (letOwnedTupleGo tg it v) (fun _ s₁' => wpAny (model prog w) A (assign tg env v) (fun _ s₂ =>
          wpAny (model prog w) A (forIn ifs true fun c r => if r = true then do let ok ← isTrue c env (eval c env); pure (ForInStep.yield ok) else pure (ForInStep.yield r)) (fun ok s₃ =>
            if ok = true then ∀ (rest : Sem Fin) (Qf : Fin → Shared → Prop) (Ef : Value → Shared → Prop), (∀ s', (∃ m, m < n ∧ I m s') → wpAny (model prog w) A rest Qf Ef s') → wpAny (model prog w) A (body rest) Qf Ef s₃
            else ∃ m, m < n ∧ I m s₃) (fun _ _ => False) s₂) (fun _ _ => False) s₁') (fun _ _ => False) s₁) (fun _ _ => False) s)
    (n : Nat) (h : I n s) : codeAny (model prog w) A (.compLoop (.ListComp elt gs scope pos) k it acc env) R s := by
  refine codeAny_loop rfl I (fun n s hI => ?_) n h
  show wpAny _ A ((compTurn (.ListComp elt gs scope pos) k it acc env).onRaise (fun x => do noteFrame x env; theTreesLotGoes x)) _ _ s
  refine wpAny_noted ?_
  rw [ht]
  unfold turnF
  refine wpAny_bind (wpAny_standAt (wpAny_bind (wpAny_mono (turn n s hI) (fun r s₁ h₁ => ?_) fun _ _ z => False.elim z)))
  cases r with
  | none => exact wpAny_pure h₁
  | some v =>
    refine wpAny_bind (wpAny_mono h₁ (fun _ s₁' h₁' => ?_) fun _ _ z => False.elim z)
    refine wpAny_bind (wpAny_mono h₁' (fun _ s₂ h₂ => wpAny_bind (wpAny_mono h₂ (fun ok s₃ h₃ => ?_) fun _ _ z => False.elim z)) fun _ _ z => False.elim z)
    cases ok with
    | false => exact wpAny_pure ⟨rfl, h₃⟩
    | true => exact h₃ _ _ _ fun s' h' => wpAny_pure ⟨rfl, h'⟩
theorem compStartG {iter : Expr} (hk : gs[k]? = some ⟨tg, iter, ifs, 0⟩) (h0 : codeAny (model prog w) A (.compLoop (.ListComp elt gs scope pos) k it acc env) R s)
    (h : wpAny (model prog w) A (pyIter it) (fun it' s' => codeAny (model prog w) A (.compLoop (.ListComp elt gs scope pos) k it' acc env) R s')
      (notedBy (model prog w) A env fun x s' => R (.error x) s') s) :
    codeAny (model prog w) A (.compStart (.ListComp elt gs scope pos) k it acc env) R s := by
  refine codeAny_of_tree ?_
  show wpAny _ _ ((compStart (.ListComp elt gs scope pos) k it acc env).onRaise (fun x => do noteFrame x env; standAt theWindowsPlace)) _ _ s
  refine wpAny_notedAt ?_
  have e : (clausesOf (.ListComp elt gs scope pos))[k]? = some ⟨tg, iter, ifs, 0⟩ := hk
  unfold compStart
  rw [e]
  show wpAny _ _ (ask >>= _) _ _ s
  refine wpAny_bind (wpAny_askSetting (wpAny_ite ?_))
  split
  · first
      | exact wpAny_bind (wpAny_pure (wpAny_pure (And.intro rfl h0)))
      | exact wpAny_pure (And.intro rfl h0)
  · first
      | exact wpAny_bind (wpAny_rule (wpAny_bind (wpAny_standAt (wpAny_bind (wpAny_mono h (fun it' s' h' => wpAny_pure (And.intro rfl h')) fun _ _ x => x)))))
      | (refine wpAny_bind (wpAny_rule ?_); show wpAny _ _ (standAt iter.pos >>= _) _ _ s; exact wpAny_bind (wpAny_standAt (wpAny_bind (wpAny_mono h (fun it' s' h' => wpAny_pure (And.intro rfl h')) fun _ _ x => x))))
end
/-- what a body is, by values: the list at D grows, then Nx -/
abbrev TB : Type := L2.St → Hp → Addr → (Hp → Prop) → Prop
structure PB (X : Cx) (ws : List Nat) (body : Value → Sem Fin → Sem Fin) (t : TB) : Prop where
  run : ∀ (pins : List (Addr × Obj)) (s : Shared) (σ : L2.St) (H : Hp) (D : Addr) (Nx : Hp → Prop) (rest : Sem Fin) (Qf : Fin → Shared → Prop) (Ef : Value → Shared → Prop), Inv X pins σ H s → t σ H D Nx →
    (∀ s' H', Inv X pins (wipe σ ws) H' s' → Nx H' → wpAny (model X.prog X.w) X.A rest Qf Ef s') → wpAny (model X.prog X.w) X.A (body (.ref D) rest) Qf Ef s
def tBe (te : TE) : TB := fun σ H D Nx => te σ H fun y H7 => ∃ acc, H7 D = some (.lst acc) ∧ acc.length < sizeLine ∧ Nx (upd H7 D (.lst (acc ++ [y])))
def tBc (wi : TI) (g : TG) (tt : TT) (ws : List Nat) (tb : TB) : TB := fun σ H D Nx => wi σ H fun J H4 => ∃ W : Nat → Nat → Hp → Prop, (∃ m, W 0 m H4) ∧ ∀ j k H, W j k H →
  (J.stop j H ∧ Nx H) ∨ (J.go j H ∧ ∃ Nx1 : Hp → Prop, (∀ H', Nx1 H' → ∃ k', k' < k ∧ W (j + 1) k' H') ∧ ∀ x H', J.yld j H x H' → g x (wipe σ ws) H' fun σ3 H5 => wipe σ3 ws = wipe σ ws ∧ tt σ3 H5 fun b H6 => if b = true then tb σ3 H6 D Nx1 else Nx1 H6)
section
variable {X : Cx} {elt tg iter : Expr} {ifs : List Expr} {gs : List Comprehension} {scope : Scope} {pos : Pos} {k : Nat} {te : TE} {wi : TI} {g : TG} {tt : TT} {tb : TB} {ws ws' : List Nat} {body : Value → Sem Fin → Sem Fin}
theorem pb_elt (hx : ∀ e s, X.xe e s → False) (he : PE X elt te) : PB X [] (fun acc rest => bodyE elt acc X.env rest) (tBe te) := by
  refine ⟨fun pins s σ H D Nx rest Qf Ef I h c => ?_⟩
  show wpAny _ _ ((do let _ ← call (.builtin "list.append") [.ref D, ← eval elt X.env] : Sem Unit) >>= fun _ => rest) _ _ _
  refine wpAny_bind (wpAny_bind (wpAny_mono (he.run pins s σ H _ I h) (fun z s1 ⟨yv, H1, I1, r1, acc, hD, hz, nx⟩ => ?_) fun e s' z => False.elim (hx e s' z)))
  exact wpAny_bind (app_ok (X := X) I1 hD hz r1 fun s2 I2 => wpAny_pure (c s2 _ I2 nx))
theorem wipe_wipe {σ : L2.St} {ws ws' : List Nat} (h : ∀ i ∈ ws', i ∈ ws) : wipe (wipe σ ws') ws = wipe σ ws := by
  refine List.ext_getElem? fun j => ?_
  rw [wipe_get, wipe_get, wipe_length, wipe_get]
  by_cases c : j ∈ ws ∧ j < σ.length
  · rw [if_pos c, if_pos c]
  · rw [if_neg c, if_neg c]
    by_cases c' : j ∈ ws' ∧ j < σ.length
    · exact absurd ⟨h j c'.1, c'.2⟩ c
    · rw [if_neg c']
/-- a clause behind the first -/
theorem pb_cl (hx : ∀ e s, X.xe e s → False) (hc : X.calm = true) (hk : gs[k]? = some ⟨tg, iter, ifs, 0⟩) (hi : PI X tg iter wi) (hg : PG X tg g) (hts : PTs X ifs tt) (hb : PB X ws' (fun acc rest => body acc rest) tb) (hv : ∀ i ∈ ws', i ∈ ws)
    (hs : ∀ x, foldedSetIterable iter X.env x = pure x) (ht : ∀ it acc, compTurn (.ListComp elt gs scope pos) k it acc X.env = turnF (.ListComp elt gs scope pos) k tg iter.pos ifs (body acc) it acc X.env) :
    PB X ws (fun acc rest => bodyC (.ListComp elt gs scope pos) k iter acc X.env rest) (tBc wi g tt ws tb) := by
  refine ⟨fun pins s σ H D Nx rest Qf Ef I h c => ?_⟩
  have nox : ∀ {α : Type} {t : Sem α} {Q : α → Shared → Prop} {E : Value → Shared → Prop} {s : Shared}, wpAny (model X.prog X.w) X.A t Q X.xe s → wpAny (model X.prog X.w) X.A t Q E s := fun h => wpAny_mono h (fun _ _ z => z) fun e s' z => False.elim (hx e s' z)
  have nof : ∀ {α : Type} {t : Sem α} {Q : α → Shared → Prop} {E : Value → Shared → Prop} {s : Shared}, wpAny (model X.prog X.w) X.A t Q (fun _ _ => False) s → wpAny (model X.prog X.w) X.A t Q E s := fun h => wpAny_mono h (fun _ _ z => z) fun e s' z => False.elim z
  show wpAny _ _ (eval iter X.env >>= _) _ _ _
  refine wpAny_bind (nox (thn (hi.run pins s σ H _ I h) fun xv s1 hx1 => ?_))
  refine wpAny_bind (wpAny_standAt (wpAny_bind (wpAny_of_eq (hs xv) (wpAny_bind (wpAny_holding (wpAny_mono hx1 (fun itv s2 h2 => ?_) fun e s' z => False.elim (hx e s' z)))))))
  obtain ⟨it, fp, tn, J, H2, e1, I2, T, st2, f2, W, ⟨m0, w0⟩, turn⟩ := h2
  subst e1
  have stat : ∀ {H' : Hp}, (∀ b ∈ fp, H' b = none) → ∀ b ∈ fp, FpOk X pins H' b := fun hn b hb => ⟨hn b hb, (f2 b hb).2⟩
  have loop : codeAny (model X.prog X.w) X.A (.compLoop (.ListComp elt gs scope pos) k (.ref it) (.ref D) X.env) (fun r s' => match r with
      | .ok _ => ∃ H', Inv X pins (wipe σ ws) H' s' ∧ Nx H'
      | .error _ => False) s2 := by
    refine compLoopG (ht (.ref it) (.ref D)) (fun n s' => ∃ j H', Inv X pins (wipe σ ws) H' s' ∧ tn j s'.heap ∧ (∀ b ∈ fp, H' b = none) ∧ W j n H') ?_ m0 ⟨0, H2, I2.weak (wipe_length _ _) (fun j v e => (wipe_some e).1), st2, fun b hb => (f2 b hb).1, w0⟩
    rintro n s3 ⟨j, H3, I3, st3, n3, w3⟩
    rcases turn j n H3 w3 with ⟨stop, nx⟩ | ⟨go, Nx1, hNx1, step⟩
    · refine thnF (T.done X rfl rfl rfl hc j pins s3 (wipe σ ws) H3 (fun _ _ => False) I3 (stat n3) st3 stop) fun r s4 ⟨hr, I4⟩ => ?_
      subst hr
      exact ⟨H3, I4, nx⟩
    · refine thnF (T.item X rfl rfl rfl hc j pins s3 (wipe σ ws) H3 (fun _ _ => False) I3 (stat n3) st3 go) fun r s4 ⟨u, hr, h4⟩ => ?_
      subst hr
      refine thnF h4 fun _ s5 ⟨x, H5, I5, r5, y5, st5, n5⟩ => ?_
      have I5' := I5.pinned (stat n5) (T.obj _ _ st5)
      refine nox (thn (hg.run _ s5 (wipe σ ws) H5 x u _ I5' r5 (step x H5 y5)) fun _ s6 ⟨σ6, H6, I6, hw6, q6⟩ => ?_)
      refine nox (thn (hts.run _ s6 σ6 H6 _ I6 q6) fun b s7 ⟨H7, I7, q7⟩ => ?_)
      have fin : ∀ {σ8 : L2.St} {s' : Shared} {H' : Hp}, Inv X (pins ++ pinsAt fp s5.heap) σ8 H' s' → wipe σ8 ws = wipe σ ws → Nx1 H' → ∃ m, m < n ∧ ∃ j H', Inv X pins (wipe σ ws) H' s' ∧ tn j s'.heap ∧ (∀ b ∈ fp, H' b = none) ∧ W j m H' := fun {σ8 s' H'} I' hw nx => by
        obtain ⟨m', hm, w'⟩ := hNx1 H' nx
        have pin' : ∀ b ∈ fp, ∀ o, s5.heap.get? b = some o → s'.heap.get? b = some o ∧ H' b = none := fun b hb o e =>
          let z := I'.pin (b, o) (List.mem_append_right _ (List.mem_append_right _ (mem_pinsAt hb e)))
          ⟨z.1, z.2.1⟩
        refine ⟨m', hm, j + 1, H', I'.unpinned.weak (by rw [← hw, wipe_length]) (fun j v e => by rw [← hw] at e; exact (wipe_some e).1), T.keep _ _ _ st5 fun b hb o e => (pin' b hb o e).1, fun b hb => ?_, w'⟩
        obtain ⟨o, e, _⟩ := T.obj _ _ st5 b hb
        exact (pin' b hb o e).2
      cases b with
      | false =>
        simp only [Bool.false_eq_true, if_false] at q7 ⊢
        exact fin I7 hw6 q7
      | true =>
        simp only [if_true] at q7 ⊢
        intro rest1 Qf1 Ef1 c1
        refine hb.run _ s7 σ6 H7 D Nx1 rest1 Qf1 Ef1 I7 q7 fun s8 H8 I8 nx8 => c1 s8 (fin I8 ((wipe_wipe hv).trans hw6) nx8)
  refine wpAny_bind (wpAny_runOwn ?_)
  rw [Around.mark_none]
  refine codeAny_mono (compStartG hk loop (T.self X.A 0 _ _ _ st2 loop)) fun r s' hr => ?_
  cases r with
  | ok f =>
    obtain ⟨H', I', nx⟩ := hr
    first
      | exact c s' H' I' nx
      | exact wpAny_bind (wpAny_pure (c s' H' I' nx))
      | exact wpAny_pure (c s' H' I' nx)
  | error e => exact hr.elim
end
end FE

namespace FE
open PySem PySem.Spec PyProof.Rows L2
/-! ### .. the first clause, in a block of its own -/
def tLcG (wi : TI) (g : TG) (tt : TT) (vs : List Nat) (tb : TB) : TE := fun σ H Q => wi σ H fun J H1 => ∀ D, H1 D = none → ∃ W : Nat → Nat → Hp → Prop, (∃ m, W 0 m (upd H1 D (.lst []))) ∧ ∀ i m H, W i m H →
  (J.stop i H ∧ Q (.ref D) H) ∨ (J.go i H ∧ ∃ Nx : Hp → Prop, (∀ H', Nx H' → ∃ m', m' < m ∧ W (i + 1) m' H') ∧ ∀ x H', J.yld i H x H' → g x (wipe σ vs) H' fun σ2 H2 => wipe σ2 vs = wipe σ vs ∧ tt σ2 H2 fun b H3 => if b = true then tb σ2 H3 D Nx else Nx H3)
section
variable {X : Cx} {elt tg iter : Expr} {ifs : List Expr} {gs : List Comprehension} {scope : Scope} {own : List (PySem.Str × Nat)} {pos pos' spos py : Pos} {wi : TI} {g : TG} {tt : TT} {tb : TB} {ws' : List Nat} {body : Value → PySem.Env → Sem Fin → Sem Fin}
abbrev lcE (elt tg iter : Expr) (ifs : List Expr) (gs : List Comprehension) (scope : Scope) (pos : Pos) : Expr := .ListComp elt (⟨tg, iter, ifs, 0⟩ :: gs) scope pos
structure LcHyp (X : Cx) (elt tg iter : Expr) (ifs : List Expr) (gs : List Comprehension) (scope : Scope) (own : List (PySem.Str × Nat)) (pos : Pos) (wi : TI) (g : TG) (tt : TT) (tb : TB) (ws' : List Nat) (body : Value → PySem.Env → Sem Fin → Sem Fin) : Prop where
  calm : X.calm = true
  nd : X.N.Nodup
  it : PI X tg iter wi
  ok : BlkOk X.N X.env.scope scope own
  tgt : ∀ (s : Shared) (H : Hp) (C : Addr) (cl : List (PySem.Str × Addr)) (fp : List Addr), PG (X.blk s H scope (compEnvC scope cl C X.env) fp) tg g
  tst : ∀ (s : Shared) (H : Hp) (C : Addr) (cl : List (PySem.Str × Addr)) (fp : List Addr), PTs (X.blk s H scope (compEnvC scope cl C X.env) fp) ifs tt
  bod : ∀ (s : Shared) (H : Hp) (C : Addr) (cl : List (PySem.Str × Addr)) (fp : List Addr), PB (X.blk s H scope (compEnvC scope cl C X.env) fp) ws' (fun acc rest => body acc (compEnvC scope cl C X.env) rest) tb
  sub : ∀ i ∈ ws', i ∈ own.map (·.2)
  fold : ∀ x, foldedSetIterable iter X.env x = pure x
  turn : ∀ it acc env, compTurn (lcE elt tg iter ifs gs scope pos) 0 it acc env = turnF (lcE elt tg iter ifs gs scope pos) 0 tg iter.pos ifs (body acc env) it acc env
theorem lcG_core {pins : List (Addr × Obj)} {s : Shared} {σ : L2.St} {H : Hp} {Q : VK} {use : Option (Value → Sem Unit)} {Qf : Value → Shared → Prop} (L : LcHyp X elt tg iter ifs gs scope own pos wi g tt tb ws' body) (I : L2.Inv X pins σ H s) (h : tLcG wi g tt (own.map (·.2)) tb σ H Q)
    (done : ∀ D C s' m H', L2.Inv X pins σ H' s' → Q (.ref D) H' → s'.heap.Ns C m → FpOk X pins H' C → compPost (model X.prog X.w) X.A X.xe use Qf (.ref D) C (.ok .next) s') :
    wpAny (model X.prog X.w) X.A (comprehension (lcE elt tg iter ifs gs scope pos) scope X.env pos' (newList []) false (eval iter X.env) use) Qf X.xe s := by
  have inner : ∀ y ∈ scope.names, y.2 = .free → ∃ c, X.env.cells.lookup y.1 = some c := fun y hy e => (L.ok.free y hy e).elim (fun k => I.ok.has _ (.inl k)) fun k => I.ok.has _ (.inr k)
  refine wpAny_comprehension_free (use := use) rfl L.fold (closure_ok inner) L.ok.kind (fun y hy e => by rw [L.ok.uniq y hy, e]) (thn (L.it.run pins s σ H _ I h) fun xv sa ha => thn ha fun itv sb hb => ?_)
  obtain ⟨it, fp, tn, J, Hb, rfl, Ib, T, stb, fb, q⟩ := hb
  refine wpAny_newObj_type (newEnv_comp ?_) (by show 0 ≤ sizeLine; decide)
  obtain ⟨W, ⟨m0, w0⟩, turn⟩ := q sb.heap.objs.size (Ib.hok.fresh (Nat.le_refl _))
  generalize hD : sb.heap.objs.size = D at w0 turn
  -- the list that grows
  obtain ⟨sc, hsc⟩ : ∃ sc : Shared, sc = { sb with heap := sb.heap.push { cls := .type "list", data := .seq ([] : List Value).toArray } } := ⟨_, rfl⟩
  have hc : sc.heap = sb.heap.push { cls := .type "list", data := .seq ([] : List Value).toArray } := by rw [hsc]
  have Ic : L2.Inv X pins σ (upd Hb D (.lst [])) sc := by
    rw [hsc]
    exact Ib.laid (t' := sb.toks) (fun b o e => Heap.get?_push_of_some _ e) (Nat.le_of_eq hD) ⟨Nat.zero_le _, [], 0, .nil, by rw [← hD]; exact Heap.get?_push_size _ rfl⟩
  have fc : ∀ b ∈ fp, FpOk X pins (upd Hb D (.lst [])) b ∧ b < sc.heap.objs.size := fun b hb => by
    obtain ⟨o, e, _⟩ := T.obj _ _ stb b hb
    have lt := Heap.lt_size e
    refine ⟨⟨?_, (fb b hb).2⟩, by rw [hc, Heap.size_push]; exact Nat.lt_succ_of_lt lt⟩
    rw [upd_ne (by rw [← hD]; exact Nat.ne_of_lt lt)]
    exact (fb b hb).1
  have stc : tn 0 sc.heap := T.keep _ _ _ stb fun b _ o e => by rw [hc]; exact Heap.get?_push_of_some _ e
  have Id := block_start Ic L.ok L.nd fc
  have pg := L.tgt sc (upd Hb D (.lst [])) sc.heap.objs.size (cellsFrom (sc.heap.objs.size + 1) scope.names (cloFrom X.env.cells scope.names [])) fp
  have pt := L.tst sc (upd Hb D (.lst [])) sc.heap.objs.size (cellsFrom (sc.heap.objs.size + 1) scope.names (cloFrom X.env.cells scope.names [])) fp
  have pb := L.bod sc (upd Hb D (.lst [])) sc.heap.objs.size (cellsFrom (sc.heap.objs.size + 1) scope.names (cloFrom X.env.cells scope.names [])) fp
  rw [← hsc]
  show codeAny _ _ (.compStart (lcE elt tg iter ifs gs scope pos) 0 (.ref it) (.ref D) (compEnvC scope (cellsFrom (sc.heap.objs.size + 1) scope.names (cloFrom X.env.cells scope.names [])) sc.heap.objs.size X.env)) (compPost (model X.prog X.w) X.A X.xe use Qf (.ref D) sc.heap.objs.size) { sc with heap := pushCells (sc.heap.push { cls := .type "dict", data := .dict #[] }) scope.names }
  have nfp : ∀ b ∈ fp, (upd Hb D (.lst [])) b = none := fun b hb => (fc b hb).1.1
  generalize hce : compEnvC scope (cellsFrom (sc.heap.objs.size + 1) scope.names (cloFrom X.env.cells scope.names [])) sc.heap.objs.size X.env = ce at Id pg pt pb ⊢
  have cL : ce.locals = sc.heap.objs.size := by subst hce; rfl
  generalize hHc : upd Hb D (.lst []) = Hc at Ic Id pg pt pb w0 nfp fc
  generalize hsd : ({ sc with heap := pushCells (sc.heap.push { cls := .type "dict", data := .dict #[] }) scope.names } : Shared) = sd at Id ⊢
  have std : tn 0 sd.heap := T.keep _ _ _ stc fun b _ o e => by rw [← hsd]; exact pushCells_keeps _ _ _ _ (Heap.get?_push_of_some _ e)
  have stat : ∀ {σ' : L2.St} {H' : Hp} {s' : Shared}, L2.Inv (X.blk sc Hc scope ce fp) [] σ' H' s' → (∀ b ∈ fp, H' b = none) → ∀ b ∈ fp, FpOk (X.blk sc Hc scope ce fp) [] H' b := fun {σ' H' s'} I' hn b hb =>
    ⟨hn b hb, (I'.ok.exf b hb).1, I'.ok.exfs b hb, .inl hb, fun x c e => (I'.ok.exf b hb).2 x c e, fun p hp => absurd (show p ∈ ([] : List (Addr × Obj)) ++ [] from hp) (by simp)⟩
  have loop : codeAny (model X.prog X.w) X.A (.compLoop (lcE elt tg iter ifs gs scope pos) 0 (.ref it) (.ref D) ce) (compPost (model X.prog X.w) X.A X.xe use Qf (.ref D) sc.heap.objs.size) sd := by
    refine compLoopG (L.turn (.ref it) (.ref D) ce) (fun n s' => ∃ i H', L2.Inv (X.blk sc Hc scope ce fp) [] (wipe σ (own.map (·.2))) H' s' ∧ tn i s'.heap ∧ (∀ b ∈ fp, H' b = none) ∧ W i n H') ?_ m0 ⟨0, Hc, Id, std, nfp, w0⟩
    rintro n s5 ⟨i, H5, I5, st5, n5, w5⟩
    rcases turn i n H5 w5 with ⟨stop, qq⟩ | ⟨go, Nx, hNx, step⟩
    · refine thnF (T.done (X.blk sc Hc scope ce fp) rfl rfl rfl L.calm i [] s5 _ H5 (fun _ _ => False) I5 (stat I5 n5) st5 stop) fun r s6 ⟨hr, I6⟩ => ?_
      subst hr
      have I7 : L2.Inv X pins σ H5 s6 := Ic.call' (ch := fp) I6.os I6.base I6.hok I6.bare fun b hb => ⟨(fc b hb).1.2.2.2.1, (fc b hb).1.2.1, (fc b hb).1.2.2.2.2.1, (fc b hb).1.2.2.2.2.2⟩
      have nC : H5 sc.heap.objs.size = none := by
        have z : H5 ce.locals = none := I6.free
        rw [cL] at z
        exact z
      obtain ⟨m, hn, _⟩ := I6.loc
      have hn : s6.heap.Ns ce.locals m := hn
      rw [cL] at hn
      exact done D sc.heap.objs.size s6 m H5 I7 qq hn (Ic.fpOk (Nat.le_refl _) nC)
    · refine thnF (T.item (X.blk sc Hc scope ce fp) rfl rfl rfl L.calm i [] s5 _ H5 (fun _ _ => False) I5 (stat I5 n5) st5 go) fun r s6 ⟨u, hr, h6⟩ => ?_
      subst hr
      refine thnF h6 fun _ s7 ⟨x, H7, I7, r7, y7, st7, n7⟩ => ?_
      have I7' := I7.pinned (stat I7 n7) (T.obj _ _ st7)
      refine thnF (pg.run _ s7 _ H7 x u _ I7' r7 (step x H7 y7)) fun _ s8 ⟨σ8, H8, I8, hw8, q8⟩ => ?_
      refine thnF (pt.run _ s8 σ8 H8 _ I8 q8) fun b s9 ⟨H9, I9, q9⟩ => ?_
      have fin : ∀ {σ9 : L2.St} {s' : Shared} {H' : Hp}, L2.Inv (X.blk sc Hc scope ce fp) ([] ++ pinsAt fp s7.heap) σ9 H' s' → wipe σ9 (own.map (·.2)) = wipe σ (own.map (·.2)) → Nx H' →
          ∃ m, m < n ∧ ∃ i H', L2.Inv (X.blk sc Hc scope ce fp) [] (wipe σ (own.map (·.2))) H' s' ∧ tn i s'.heap ∧ (∀ b ∈ fp, H' b = none) ∧ W i m H' := fun {σ9 s' H'} I' hw nx => by
        obtain ⟨m', hm, w'⟩ := hNx H' nx
        have pin' : ∀ b ∈ fp, ∀ o, s7.heap.get? b = some o → s'.heap.get? b = some o ∧ H' b = none := fun b hb o e =>
          let z := I'.pin (b, o) (List.mem_append_right _ (List.mem_append_right _ (mem_pinsAt hb e)))
          ⟨z.1, z.2.1⟩
        refine ⟨m', hm, i + 1, H', (I'.unpinned (pins := [])).weak (by rw [← hw, wipe_length]) (fun j v e => by rw [← hw] at e; exact (wipe_some e).1), T.keep _ _ _ st7 fun b hb o e => (pin' b hb o e).1, fun b hb => ?_, w'⟩
        obtain ⟨o, e, _⟩ := T.obj _ _ st7 b hb
        exact (pin' b hb o e).2
      cases b with
      | false =>
        simp only [Bool.false_eq_true, if_false] at q9 ⊢
        exact fin I9 hw8 q9
      | true =>
        simp only [if_true] at q9 ⊢
        intro rest1 Qf1 Ef1 c1
        exact pb.run _ s9 σ8 H9 D Nx rest1 Qf1 Ef1 I9 q9 fun s10 H10 I10 nx10 => c1 s10 (fin I10 ((wipe_wipe L.sub).trans hw8) nx10)
  exact codeAny_compStart_list loop (T.self X.A 0 _ _ _ std loop)
theorem pe_lcG (L : LcHyp X elt tg iter ifs gs scope own pos wi g tt tb ws' body) : PE X (lcE elt tg iter ifs gs scope pos) (tLcG wi g tt (own.map (·.2)) tb) := by
  refine ⟨fun pins s σ H Q I h => ?_⟩
  rw [eval_ListComp]
  refine lcG_core L I h fun D C s' m H' I' q hn f => ⟨m, hn, fun h'' sb => ?_⟩
  obtain ⟨f0, f1, f2, f3, f4, f5⟩ := f
  exact ⟨.ref D, H', I'.turned (t' := s'.toks) (fun b o hb e => (sb.2 b hb).trans e) f0 f1 f3 f4 f5, rfl, q⟩
theorem ps_setLcG {i : Nat} {y : PySem.Str} (L : LcHyp X elt tg iter ifs gs scope own pos wi g tt tb ws' body) (hy : X.N[i]? = some y) (hyl : X.env.scope.names.lookup y = some .local)
    (hsw : swapsWith (lcE elt tg iter ifs gs scope pos) (some (.Name y py)) spos.line X.env = pure true) : PS X (.Assign [.Name y py] (lcE elt tg iter ifs gs scope pos) spos) (tAsg (tLcG wi g tt (own.map (·.2)) tb) (gName i)) := by
  refine ⟨fun pins s σ H D I h => ?_⟩
  rw [exec_Assign_Name_used _ _ _ _ hsw]
  refine wpAny_bind (wpAny_standAt (wpAny_bind ?_))
  show wpAny _ X.A (do let _ ← comprehension (lcE elt tg iter ifs gs scope pos) scope X.env (firstIterPos (⟨tg, iter, ifs, 0⟩ :: gs) pos) (newList []) false (eval iter X.env) (some (assign (.Name y py) X.env))) _ _ s
  have h : tLcG wi g tt (own.map (·.2)) tb σ H (fun x H1 => gName i x σ H1 D.nx) := h
  refine wpAny_bind (thn (lcG_core (Qf := fun _ s' => L2.SP X pins D .next s') L I h fun Lr C s' m H' I' q hn f => ?_) fun _ s' hq => wpAny_pure (wpAny_pure hq))
  show wpAny _ _ (assign (.Name y py) X.env (.ref Lr)) _ _ _
  refine wpAny_assign_Name (store_ok2 (v := V.ref Lr) I' L.nd hy (.inl hyl) rfl (fun s2 I2 ⟨a, sb, ha⟩ => ?_) (.inr hyl))
  obtain ⟨f0, f1, f2, f3, f4, f5⟩ := f
  have haC : C ≠ a := ha.elim (fun z => by rw [z]; exact f1) fun z e => f4 y a z e.symm
  exact ⟨m, hn.sameBut sb haC, fun h3 sb3 => ⟨_, H', I2.turned (t' := s2.toks) (fun b o hb e => (sb3.2 b hb).trans e) f0 f1 f3 f4 f5, q⟩⟩
end
end FE

/-! FE55: a run of the top that asks the setting once (dicts at the top): by both answers -/
namespace FE
open PySem PySem.Spec PyProof.Rows L2
def updF (f : String → Bool) (b : Bool) : String → Bool := fun s => if s = "special-get-raises" then b else f s
def updW (w : World) (b : Bool) : World := { w with params := { w.params with followText := updF w.params.followText b } }
theorem updW_eq (w : World) : updW w (w.params.followText "special-get-raises") = w := by
  have e : updF w.params.followText (w.params.followText "special-get-raises") = w.params.followText := by
    funext s
    unfold updF
    split
    · rename_i h
      rw [h]
    · rfl
  unfold updW
  rw [e]
theorem run_both {r : PySem.W.OpenRow} {q : Program} {H : PySem.W.Hook} {ob : PySem.W.SharedT → H.α} {M : Nat} {loose : List PySem.Str} {w : World} (h1 : HandSHeadRun.RunEq r q H ob M loose (updW w true)) (h2 : HandSHeadRun.RunEq r q H ob M loose (updW w false)) : HandSHeadRun.RunEq r q H ob M loose w := by
  have all : ∀ b, HandSHeadRun.RunEq r q H ob M loose (updW w b) := fun b => match b with
    | true => h1
    | false => h2
  have z := all (w.params.followText "special-get-raises")
  rw [updW_eq] at z
  exact z
theorem run_bothI {r : PySem.W.OpenRow} {q : Program} {H : PySem.W.Hook} {ob : PySem.W.SharedT → H.α} {M : Nat} {loose : List PySem.Str} {w : World} (h1 : HandSHeadRun.RunEqI r q H ob M loose (updW w true)) (h2 : HandSHeadRun.RunEqI r q H ob M loose (updW w false)) : HandSHeadRun.RunEqI r q H ob M loose w := by
  have all : ∀ b, HandSHeadRun.RunEqI r q H ob M loose (updW w b) := fun b => match b with
    | true => h1
    | false => h2
  have z := all (w.params.followText "special-get-raises")
  rw [updW_eq] at z
  exact z
end FE

namespace FE
open PySem PySem.Spec PyProof.Rows L2
/-! ### comprehensions of any number of clauses, by data -/
def loopB (f : D → Env → Option Env) (ot : Env → OT) (B : List D → Env → Option (List D × Env)) (ws : List Nat) : List D → Env → List D → Option (List D × Env)
  | [], env, acc => some (acc, env)
  | d :: ds, env, acc => match f d env with
    | none => none
    | some e1 => match ot e1 with
      | .ok true e2 => match B acc e2 with
        | some (acc', e3) => if ws.all (fun v => noIo e3[v]?) = true then loopB f ot B ws ds (wipeE e3 ws) acc' else none
        | none => none
      | .ok false e2 => if ws.all (fun v => noIo e2[v]?) = true then loopB f ot B ws ds (wipeE e2 ws) acc else none
      | _ => none
def eltB (oe : Env → OE) (acc : List D) (env : Env) : Option (List D × Env) := match oe env with
  | .ok r e3 => if acc.length < 1000000 then some (acc ++ [r.fz], e3) else none
  | _ => none
def clB (oi : Env → OI) (f : D → Env → Option Env) (ot : Env → OT) (B : List D → Env → Option (List D × Env)) (ws : List Nat) (acc : List D) (env : Env) : Option (List D × Env) := match oi env with
  | .ok ds e1 => if ws.all (fun v => noIo e1[v]?) = true then loopB f ot B ws ds (wipeE e1 ws) acc else none
  | _ => none
def oLcG (oi : Env → OI) (f : D → Env → Option Env) (ot : Env → OT) (B : List D → Env → Option (List D × Env)) (ws : List Nat) : Env → OE := fun env => (oi env).bindE fun ds e1 =>
  if ws.all (okW e1) = true then match loopB f ot B ws ds (wipeE e1 ws) [] with
    | some (acc, e2) => if ws.all (fun v => noIo e2[v]?) = true then .ok (.ow acc) (restE e1 e2 ws) else .bad
    | none => .bad
  else .bad
section
variable {Z : Zd} {F F' H H' : Hp} {σ σ' : L2.St} {env env' : Env}
theorem Good.back2 (g : Good Z F σ H env) (g' : Good (Z.apart F σ H env) F' σ' H' env') : Good Z F' σ' H' env' where
  ff := g.ff.trans g'.ff
  fh := g'.fh
  keep := fun a o e n => by
    refine g'.keep a o (hideO_keep (g.keep a o e n) fun q => ?_) n
    rcases g.ownNone q with q | q
    · exact n q
    · rw [q] at e
      cases e
  new := fun a o e n => by
    cases q : F a with
    | some u => exact g.new a u q n
    | none =>
      rcases hideO_none (g'.new a o e q) with z | z
      · exact g.fresh0 z
      · rcases g.ownNone z with z | z
        · obtain ⟨i, ds, e1, e2⟩ := g'.pa a z
          obtain ⟨b, vs, h1, _, h3, _⟩ := g'.ow i _ _ e1 rfl
          rw [e2] at h1
          cases h1
          rw [e] at h3
          cases h3
        · exact z
  len := g'.len
  sh := g'.sh
  ow := fun i s ds e1 e2 => by
    obtain ⟨a, vs, h1, h2, h3, h4, h5⟩ := g'.ow i s ds e1 e2
    refine ⟨a, vs, h1, h2, h3, h4, ?_⟩
    rcases h5 with h5 | h5
    · exact .inl h5
    · rcases hideO_none h5 with z | z
      · exact .inr (g.fresh0 z)
      · exact g.ownNone z
  io := g'.io
  nio := fun i ds e a ea => by
    rcases hideO_none (g'.nio i ds e a ea) with z | z
    · exact g.fresh0 z
    · rcases g.ownNone z with z | z
      · obtain ⟨j, es, e1, e2⟩ := g'.pa a z
        have ne : i ≠ j := fun q => by
          subst q
          rw [e] at e1
          cases e1
        exact absurd e2 (g'.dis i j a _ _ ne e e1 rfl rfl ea)
      · exact z
  pa := g'.pa
  dis := g'.dis
/-- what stands with a list that grows at L -/
structure Gro (Z : Zd) (F : Hp) (σ : L2.St) (H : Hp) (env : Env) (L : Addr) (acc : List D) (vacc : List V) : Prop where
  g : Good Z F σ H env
  at_ : H L = some (.lst vacc)
  nf : F L = none
  rep : RepL Z.G F vacc acc
  no : ¬ OwnedAt σ env L
  ps : L ∉ Z.ps
  z0 : Z.H0 L = none
variable {L : Addr} {acc : List D} {vacc : List V}
theorem Gro.step (c : Gro Z F σ H env L acc vacc) (g' : Good (Z.apart F σ H env) F' σ' H' env') : Gro Z F' σ' H' env' L acc vacc := by
  have kept : hideO σ env H L = some (.lst vacc) := hideO_keep c.at_ c.no
  refine ⟨c.g.back2 g', g'.stood c.at_ c.no c.ps, ?_, c.rep.mono g'.ff, fun q => ?_, c.ps, c.z0⟩
  · cases q : F' L with
    | none => rfl
    | some o =>
      have z : hideO σ env H L = none := g'.new L o q c.nf
      rw [kept] at z
      cases z
  · rcases g'.ownNone q with z | z
    · exact c.ps z
    · have z' : hideO σ env H L = none := z
      rw [kept] at z'
      cases z'
theorem Gro.push (c : Gro Z F σ H env L acc vacc) {y : V} {d : D} (r : Rep Z.G F y d) : Gro Z F σ (upd H L (.lst (vacc ++ [y]))) env L (acc ++ [d]) (vacc ++ [y]) :=
  ⟨c.g.other c.nf c.z0 c.no, upd_same, c.nf, c.rep.append (.single r), c.no, c.ps, c.z0⟩
theorem own_wipeE {i : Nat} {s : SV} {es : List D} (q : Own s = some es) : ∀ {vs : List Nat}, (wipeE env vs)[i]? = some s → env[i]? = some s
  | [], h => h
  | v :: vs, h => by
    rcases get_set h with ⟨rfl, z⟩ | ⟨_, z⟩
    · subst z
      cases q
    · exact own_wipeE q z
theorem Gro.wipes (c : Gro Z F σ H env L acc vacc) {vs : List Nat} (h : ∀ v ∈ vs, noIo env[v]? = true) : Gro Z F (wipe σ vs) H (wipeE env vs) L acc vacc := by
  refine ⟨c.g.wipes h, c.at_, c.nf, c.rep, ?_, c.ps, c.z0⟩
  rintro ⟨i, s, e1, e2, e3⟩
  cases q : Own s with
  | none => rw [q] at e2; cases e2
  | some es => exact c.no ⟨i, s, own_wipeE q e1, e2, (wipe_some e3).1⟩
def Zg (G : Gd) (C : CZ) (Z : Zd) : Prop := Z.G = G ∧ Z.C = C
def tIx (G : Gd) (C : CZ) (o : Env → OI) : TI := fun σ H Q => ∃ Z', Zq G C Z' ∧ tI Z' o σ H Q
def tBx (G : Gd) (C : CZ) (B : List D → Env → Option (List D × Env)) (ws : List Nat) : TB := fun σ H L Nx => ∃ Z, Zg G C Z ∧ ∃ F env acc vacc acc' env', Gro Z F σ H env L acc vacc ∧ B acc env = some (acc', env') ∧
  ∀ F' H' vacc', Gro Z F' (wipe σ ws) H' env' L acc' vacc' → Ex F F' → Nx H'
theorem eb_to {G : Gd} {C : CZ} {oe : Env → OE} {Nx : Hp → Prop} (h : tBx G C (eltB oe) [] σ H L Nx) : tBe (tEx G C oe) σ H L Nx := by
  obtain ⟨Z, ⟨rfl, rfl⟩, F, env, acc, vacc, acc', env', gl, e, c⟩ := h
  refine ⟨Z.apart F σ H env, ⟨rfl, rfl, rfl⟩, F, env, gl.g.apart, ?_⟩
  unfold eltB at e
  cases er : oe env with
  | bad => rw [er] at e; cases e
  | exc x e3 => rw [er] at e; cases e
  | ok r e3 =>
    rw [er] at e
    dsimp only at e
    split at e
    case isFalse => cases e
    rename_i hl
    cases e
    intro y H7 F7 g7 x7 r7
    obtain ⟨F8, g8, x8, r8⟩ := g7.give r7
    have gl2 := gl.step g8
    exact ⟨vacc, gl2.at_, Nat.lt_of_lt_of_le (by rw [gl2.rep.length]; exact hl) big_line, c F8 _ _ (gl2.push r8) (x7.trans x8)⟩
def Wl (Z : Zd) (F1 : Hp) (σ : L2.St) (ws : List Nat) (ds : List D) (f : D → Env → Option Env) (ot : Env → OT) (B : List D → Env → Option (List D × Env)) (acc' : List D) (env' : Env) (L : Addr) : Nat → Nat → Hp → Prop := fun j k H' =>
  ∃ F2 env2 acc2 vacc2, Gro Z F2 (wipe σ ws) H' env2 L acc2 vacc2 ∧ Ex F1 F2 ∧ j + k = ds.length ∧ loopB f ot B ws (ds.drop j) env2 acc2 = some (acc', env')
theorem turn_go {g : TG} {f : D → Env → Option Env} {ot : Env → OT} {B : List D → Env → Option (List D × Env)} {ws ws' : List Nat} {ds : List D} {acc' : List D} {F1 : Hp} {J : It} {j k : Nat} (ht : TgOk Z.G ws g f) (it : ItRep Z.G J F1 ds) (hv : ∀ i ∈ ws', i ∈ ws)
    (hw : Wl Z F1 σ ws ds f ot B acc' env' L j k H') :
    (J.stop j H' ∧ ∃ F2 vacc2, Gro Z F2 (wipe σ ws) H' env' L acc' vacc2 ∧ Ex F1 F2) ∨
    (J.go j H' ∧ ∃ Nx1 : Hp → Prop, (∀ H'', Nx1 H'' → ∃ k', k' < k ∧ Wl Z F1 σ ws ds f ot B acc' env' L (j + 1) k' H'') ∧ ∀ x H'', J.yld j H' x H'' → g x (wipe σ ws) H'' fun σ3 H5 => wipe σ3 ws = wipe σ ws ∧ tTx Z.G Z.C ot σ3 H5 fun b H6 => if b = true then tBx Z.G Z.C B ws' σ3 H6 L Nx1 else Nx1 H6) := by
  obtain ⟨F2, env2, acc2, vacc2, gl, x2, hm, h2⟩ := hw
  by_cases hi : j < ds.length
  · have hd : ds[j]? = some ds[j] := List.getElem?_eq_getElem hi
    rw [List.drop_eq_getElem_cons hi] at h2
    generalize hdd : ds[j] = d at h2
    rw [hdd] at hd
    refine .inr ⟨it.go j F2 H' x2 gl.g.fh hi, fun H'' => ∃ k', k' < k ∧ Wl Z F1 σ ws ds f ot B acc' env' L (j + 1) k' H'', fun H'' hN => hN, fun x H'' hy => ?_⟩
    unfold loopB at h2
    cases eg : f d env2 with
    | none => rw [eg] at h2; cases h2
    | some env3 =>
      rw [eg] at h2
      dsimp only at h2
      have ga := gl.g.apart
      have turn : ∀ F4 H4, Good (Z.apart F2 (wipe σ ws) H' env2) F4 (wipe σ ws) H4 env2 → Ex F2 F4 → Rep Z.G F4 x d → g x (wipe σ ws) H4 fun σ3 H5 => wipe σ3 ws = wipe σ ws ∧ tTx Z.G Z.C ot σ3 H5 fun b H6 =>
          if b = true then tBx Z.G Z.C B ws' σ3 H6 L (fun H'' => ∃ k', k' < k ∧ Wl Z F1 σ ws ds f ot B acc' env' L (j + 1) k' H'') else (∃ k', k' < k ∧ Wl Z F1 σ ws ds f ot B acc' env' L (j + 1) k' H6) := by
        intro F4 H4 g4 x4 r4
        refine ht (Z.apart F2 (wipe σ ws) H' env2) F4 (wipe σ ws) H4 env2 env3 x d _ rfl g4 r4 eg fun σ2 g5 k5 l5 => ?_
        have ws2 : wipe σ2 ws = wipe σ ws := wipe_ext k5 (by rw [l5, wipe_length])
        refine ⟨ws2, Z.apart F2 (wipe σ ws) H' env2, ⟨rfl, rfl, rfl⟩, F4, env3, g5, ?_⟩
        cases eo : ot env3 with
        | bad => rw [eo] at h2; cases h2
        | exc x e => rw [eo] at h2; cases h2
        | ok b e2 =>
          rw [eo] at h2
          intro H6 F6 g6 x6
          have gl6 := gl.step g6
          cases b with
          | false =>
            dsimp only at h2
            rw [if_neg Bool.false_ne_true]
            split at h2
            case isFalse => cases h2
            rename_i c
            have gw := gl6.wipes (vs := ws) (by simpa using c)
            rw [ws2] at gw
            exact ⟨k - 1, by omega, F6, _, acc2, vacc2, gw, x2.trans (x4.trans x6), by omega, h2⟩
          | true =>
            dsimp only at h2
            rw [if_pos rfl]
            cases eb : B acc2 e2 with
            | none => rw [eb] at h2; cases h2
            | some pr =>
              obtain ⟨acc3, e3⟩ := pr
              rw [eb] at h2
              dsimp only at h2
              split at h2
              case isFalse => cases h2
              rename_i c
              refine ⟨Z, ⟨rfl, rfl⟩, F6, e2, acc2, vacc2, acc3, e3, gl6, eb, fun F8 H8 v8 gl8 x8 => ?_⟩
              have gw := gl8.wipes (vs := ws) (by simpa using c)
              rw [wipe_wipe hv, ws2] at gw
              exact ⟨k - 1, by omega, F8, _, acc3, v8, gw, x2.trans (x4.trans (x6.trans x8)), by omega, h2⟩
      rcases it.yld j d F2 H' x H'' x2 gl.g.fh hd hy with ⟨rfl, rx⟩ | ⟨T, o, hT, rfl, rx⟩
      · exact turn F2 H'' ga (Ex.refl F2) rx
      · exact turn _ _ (ga.layF hT) (Ex.new (gl.g.fresh hT)) rx
  · rw [List.drop_of_length_le (by omega)] at h2
    cases h2
    exact .inl ⟨it.stop j F2 H' x2 gl.g.fh (by omega), F2, vacc2, gl, x2⟩
theorem cb_to {G : Gd} {C : CZ} {g : TG} {oi : Env → OI} {f : D → Env → Option Env} {ot : Env → OT} {B : List D → Env → Option (List D × Env)} {ws ws' : List Nat} {Nx : Hp → Prop} (ht : TgOk G ws g f) (hv : ∀ i ∈ ws', i ∈ ws) (h : tBx G C (clB oi f ot B ws) ws σ H L Nx) :
    tBc (tIx G C oi) g (tTx G C ot) ws (tBx G C B ws') σ H L Nx := by
  obtain ⟨Z, ⟨rfl, rfl⟩, F, env, acc, vacc, acc', env', gl, e, c⟩ := h
  refine ⟨Z.apart F σ H env, ⟨rfl, rfl, rfl⟩, F, env, gl.g.apart, ?_⟩
  unfold clB at e
  cases er : oi env with
  | bad => rw [er] at e; cases e
  | exc x e3 => rw [er] at e; cases e
  | ok ds e1 =>
    rw [er] at e
    dsimp only at e
    split at e
    case isFalse => cases e
    rename_i cw
    intro J H1 F1 g1 x1 it
    have gl1 := (gl.step g1).wipes (vs := ws) (by simpa using cw)
    refine ⟨Wl Z F1 σ ws ds f ot B acc' env' L, ⟨ds.length, F1, _, acc, vacc, gl1, Ex.refl F1, by omega, e⟩, fun j k H' hw => ?_⟩
    rcases turn_go ht it hv hw with ⟨st, F2, v2, g2, x2⟩ | z
    · exact .inl ⟨st, c F2 _ v2 g2 (x1.trans x2)⟩
    · exact .inr z
theorem lcG_to {oi : Env → OI} {g : TG} {f : D → Env → Option Env} {ot : Env → OT} {B : List D → Env → Option (List D × Env)} {ws ws' : List Nat} (ht : TgOk Z.G ws g f) (nd : ws.Nodup) (hv : ∀ i ∈ ws', i ∈ ws) {Q : VK} (h : tE Z (oLcG oi f ot B ws) σ H Q) :
    tLcG (tI Z oi) g (tTx Z.G Z.C ot) ws (tBx Z.G Z.C B ws') σ H Q := by
  obtain ⟨F, env, g0, h⟩ := h
  refine seqIE g0 h fun ds env1 J H1 F1 g1 x1 it h1 => ?_
  split at h1
  case isFalse => exact h1.elim
  rename_i cw
  have okw : ∀ v ∈ ws, okW env1 v = true := by simpa using cw
  have noio : ∀ v ∈ ws, noIo env1[v]? = true := fun v hv => by
    have o := okw v hv
    unfold okW at o
    cases q : env1[v]? with
    | none => rfl
    | some s =>
      rw [q] at o
      cases s <;> first | rfl | cases o
  intro L hL
  cases er : loopB f ot B ws ds (wipeE env1 ws) [] with
  | none => rw [er] at h1; exact h1.elim
  | some pr =>
    obtain ⟨accF, eF⟩ := pr
    rw [er] at h1
    dsimp only at h1
    split at h1
    case isFalse => exact h1.elim
    rename_i cF
    have noF : ∀ v ∈ ws, noIo eF[v]? = true := by simpa using cF
    have gl0 : Gro Z F1 σ (upd H1 L (.lst [])) env1 L [] [] := by
      refine ⟨g1.lay (o := .lst []) hL, upd_same, g1.fresh hL, .nil, ?_, g1.nps hL, g1.fresh0 hL⟩
      rintro ⟨i, s, e1, e2, e3⟩
      cases q : Own s with
      | none => rw [q] at e2; cases e2
      | some es =>
        obtain ⟨a, vs, k1, k2, _⟩ := g1.ow i s es e1 q
        rw [e3] at k1
        cases k1
        rw [hL] at k2
        cases k2
    refine ⟨Wl Z F1 σ ws ds f ot B accF eF L, ⟨ds.length, F1, _, [], [], gl0.wipes noio, Ex.refl F1, by omega, er⟩, fun j k H' hw => ?_⟩
    rcases turn_go ht it hv hw with ⟨st, F2, v2, g2, x2⟩ | z
    · refine .inl ⟨st, ?_⟩
      have gr := Good.rests g1 x2 g2.g nd okw noF
      refine h1 (.ref L) H' F2 gr x2 ⟨L, v2, rfl, g2.at_, g2.nf, g2.rep, g2.z0, fun i s e1 e2 e3 => ?_⟩
      obtain ⟨q1, q2⟩ := restE_own okw e1 e2
      refine g2.no ⟨i, s, q1, e2, ?_⟩
      rw [wipe_get, if_neg (fun c => q2 c.1)]
      exact e3
    · exact .inr z
end
section
variable {X : Cx} {Z : Zd} {G : Gd} {C : CZ} {elt tg iter : Expr} {ifs : List Expr} {gs : List Comprehension} {scope : Scope} {own : List (PySem.Str × Nat)} {pos spos py : Pos} {oi : Env → OI} {g : TG} {f : D → Env → Option Env} {ot : Env → OT} {oe : Env → OE} {i k : Nat} {y : PySem.Str} {B : List D → Env → Option (List D × Env)} {ws ws' : List Nat} {body : Value → PySem.Env → Sem Fin → Sem Fin} {bodyv : Value → Sem Fin → Sem Fin}
theorem PB.imp {b : Value → Sem Fin → Sem Fin} {t t' : TB} (h : PB X ws b t) (c : ∀ σ H L Nx, t' σ H L Nx → t σ H L Nx) : PB X ws b t' :=
  ⟨fun pins s σ H D Nx rest Qf Ef I q => h.run pins s σ H D Nx rest Qf Ef I (c σ H D Nx q)⟩
theorem nb_elt (hx : ∀ e s, X.xe e s → False) (he : ∀ Z', Zq G C Z' → PE X elt (tE Z' oe)) : PB X [] (fun acc rest => bodyE elt acc X.env rest) (tBx G C (eltB oe) []) :=
  (pb_elt (te := tEx G C oe) hx ⟨fun pins s σ H Q I ⟨Z', q, h⟩ => (he Z' q).run pins s σ H Q I h⟩).imp fun σ H L Nx h => eb_to h
theorem nb_cl (hx : ∀ e s, X.xe e s → False) (hc : X.calm = true) (hk : gs[k]? = some ⟨tg, iter, ifs, 0⟩) (ht : TgOk G ws g f) (hi : ∀ Z', Zq G C Z' → PI X tg iter (tI Z' oi)) (hg : PG X tg g) (hts : ∀ Z', Zq G C Z' → PTs X ifs (tT Z' ot))
    (hb : PB X ws' (fun acc rest => bodyv acc rest) (tBx G C B ws')) (hv : ∀ i ∈ ws', i ∈ ws) (hs : ∀ x, foldedSetIterable iter X.env x = pure x) (htn : ∀ it acc, compTurn (.ListComp elt gs scope pos) k it acc X.env = turnF (.ListComp elt gs scope pos) k tg iter.pos ifs (bodyv acc) it acc X.env) :
    PB X ws (fun acc rest => bodyC (.ListComp elt gs scope pos) k iter acc X.env rest) (tBx G C (clB oi f ot B ws) ws) :=
  (pb_cl (wi := tIx G C oi) (tt := tTx G C ot) (tb := tBx G C B ws') hx hc hk ⟨fun pins s σ H Q I ⟨Z', q, h⟩ => (hi Z' q).run pins s σ H Q I h⟩ hg ⟨fun pins s σ H Q I ⟨Z', q, h⟩ => (hts Z' q).run pins s σ H Q I h⟩ hb hv hs htn).imp fun σ H L Nx h => cb_to ht hv h
theorem n_lcG (hc : X.calm = true) (hN : X.N.Nodup) (hi : PI X tg iter (tI Z oi)) (ok : BlkOk X.N X.env.scope scope own) (nd : (own.map (·.2)).Nodup) (ht : TgOk Z.G (own.map (·.2)) g f)
    (hg : ∀ (s : Shared) (H : Hp) (C : Addr) (cl : List (PySem.Str × Addr)) (fp : List Addr), PG (X.blk s H scope (compEnvC scope cl C X.env) fp) tg g)
    (hT : ∀ (Z' : Zd), Zq Z.G Z.C Z' → ∀ (s : Shared) (H : Hp) (C : Addr) (cl : List (PySem.Str × Addr)) (fp : List Addr), PTs (X.blk s H scope (compEnvC scope cl C X.env) fp) ifs (tT Z' ot))
    (hb : ∀ (s : Shared) (H : Hp) (C : Addr) (cl : List (PySem.Str × Addr)) (fp : List Addr), PB (X.blk s H scope (compEnvC scope cl C X.env) fp) ws' (fun acc rest => body acc (compEnvC scope cl C X.env) rest) (tBx Z.G Z.C B ws'))
    (hv : ∀ i ∈ ws', i ∈ own.map (·.2)) (htn : ∀ it acc env, compTurn (lcE elt tg iter ifs gs scope pos) 0 it acc env = turnF (lcE elt tg iter ifs gs scope pos) 0 tg iter.pos ifs (body acc env) it acc env)
    (hs : ∀ x, foldedSetIterable iter X.env x = pure x := by intro _; rfl) : PE X (lcE elt tg iter ifs gs scope pos) (tE Z (oLcG oi f ot B (own.map (·.2)))) :=
  PE.imp (pe_lcG (wi := tI Z oi) (tt := tTx Z.G Z.C ot) (tb := tBx Z.G Z.C B ws') ⟨hc, hN, hi, ok, hg, fun s H C cl fp => ⟨fun pins s' σ H' Q I ⟨Z', q, h⟩ => (hT Z' q s H C cl fp).run pins s' σ H' Q I h⟩, hb, hv, hs, htn⟩) fun σ H Q h => lcG_to ht nd hv h
theorem n_asgLcG (i : Nat) (hc : X.calm = true) (hN : X.N.Nodup) (hi : PI X tg iter (tI Z oi)) (ok : BlkOk X.N X.env.scope scope own) (nd : (own.map (·.2)).Nodup) (ht : TgOk Z.G (own.map (·.2)) g f)
    (hg : ∀ (s : Shared) (H : Hp) (C : Addr) (cl : List (PySem.Str × Addr)) (fp : List Addr), PG (X.blk s H scope (compEnvC scope cl C X.env) fp) tg g)
    (hT : ∀ (Z' : Zd), Zq Z.G Z.C Z' → ∀ (s : Shared) (H : Hp) (C : Addr) (cl : List (PySem.Str × Addr)) (fp : List Addr), PTs (X.blk s H scope (compEnvC scope cl C X.env) fp) ifs (tT Z' ot))
    (hb : ∀ (s : Shared) (H : Hp) (C : Addr) (cl : List (PySem.Str × Addr)) (fp : List Addr), PB (X.blk s H scope (compEnvC scope cl C X.env) fp) ws' (fun acc rest => body acc (compEnvC scope cl C X.env) rest) (tBx Z.G Z.C B ws'))
    (hv : ∀ i ∈ ws', i ∈ own.map (·.2)) (htn : ∀ it acc env, compTurn (lcE elt tg iter ifs gs scope pos) 0 it acc env = turnF (lcE elt tg iter ifs gs scope pos) 0 tg iter.pos ifs (body acc env) it acc env)
    (hsw : swapsWith (lcE elt tg iter ifs gs scope pos) (some (.Name y py)) spos.line X.env = pure true)
    (hy : X.N[i]? = some y := by rfl) (hyl : X.env.scope.names.lookup y = some .local := by rfl) (hs : ∀ x, foldedSetIterable iter X.env x = pure x := by intro _; rfl) :
    PS X (.Assign [.Name y py] (lcE elt tg iter ifs gs scope pos) spos) (tS Z (sAsg i (oLcG oi f ot B (own.map (·.2))))) := by
  refine PS.imp (ps_setLcG (i := i) (wi := tI Z oi) (tt := tTx Z.G Z.C ot) (tb := tBx Z.G Z.C B ws') ⟨hc, hN, hi, ok, hg, fun s H C cl fp => ⟨fun pins s' σ H' Q I ⟨Z', q, h⟩ => (hT Z' q s H C cl fp).run pins s' σ H' Q I h⟩, hb, hv, hs, htn⟩ hy hyl hsw) fun Dn σ H ⟨F, env, g0, h⟩ => ?_
  refine lcG_to ht nd hv (seqES g0 h fun r env1 v H1 F1 g1 x1 r1 h1 => ?_)
  split at h1
  · rename_i c
    exact h1 _ H1 F1 (g1.asg r1 c) (Ex.refl F1)
  · exact h1.elim
end
end FE

namespace FE
open PySem PySem.Spec PyProof.Rows L2
/-! ### .. as a program writes them -/
section
variable {X : Cx} {Z : Zd} {G : Gd} {C : CZ} {elt tg iter : Expr} {ifs : List Expr} {gs : List Comprehension} {scope : Scope} {pos spos py : Pos} {oi : FE.Env → OI} {g : TG} {f : D → FE.Env → Option FE.Env} {ot : FE.Env → OT} {oe : FE.Env → OE} {i k : Nat} {y : PySem.Str} {B : List D → FE.Env → Option (List D × FE.Env)} {ws' : List Nat} {body : Value → PySem.Env → Sem Fin → Sem Fin} {bodyv : Value → Sem Fin → Sem Fin}
abbrev Zv (G : Gd) (C : CZ) (F0 H0 : Hp) (as : List Addr) : Zd := ⟨G, F0, H0, as, fun _ _ _ _ => False, C⟩
theorem zv_of {P : Zd → Prop} (h : ∀ (F0 H0 : Hp) (as : List Addr), P (Zv G C F0 H0 as)) : ∀ Z', Zq G C Z' → P Z' := fun Z' q => by
  obtain ⟨G', F0, H0, as, W, C'⟩ := Z'
  obtain ⟨q1, q2, q3⟩ := q
  dsimp only at q1 q2 q3
  subst q1 q2 q3
  exact h F0 H0 as
theorem cb_elt (he : ∀ (F0 H0 : Hp) (as : List Addr), PE X elt (tE (Zv G C F0 H0 as) oe)) (hx : ∀ e s, X.xe e s → False := by exact fun _ _ h => h) : PB X [] (fun acc rest => bodyE elt acc X.env rest) (tBx G C (eltB oe) []) :=
  nb_elt hx (zv_of (P := fun Z' => PE X elt (tE Z' oe)) he)
theorem cb_cl (ws : List Nat) (hi : ∀ (F0 H0 : Hp) (as : List Addr), PI X tg iter (tI (Zv G C F0 H0 as) oi)) (ht : TgOk G ws g f) (hg : PG X tg g) (hts : ∀ (F0 H0 : Hp) (as : List Addr), PTs X ifs (tT (Zv G C F0 H0 as) ot))
    (hb : PB X ws' (fun acc rest => bodyv acc rest) (tBx G C B ws')) (hk : gs[k]? = some ⟨tg, iter, ifs, 0⟩ := by rfl) (hc : X.calm = true := by rfl) (hx : ∀ e s, X.xe e s → False := by exact fun _ _ h => h) (hv : ∀ i ∈ ws', i ∈ ws := by simp)
    (hs : ∀ x, foldedSetIterable iter X.env x = pure x := by intro _; rfl) (htn : ∀ it acc, compTurn (.ListComp elt gs scope pos) k it acc X.env = turnF (.ListComp elt gs scope pos) k tg iter.pos ifs (bodyv acc) it acc X.env := by intros; rfl) :
    PB X ws (fun acc rest => bodyC (.ListComp elt gs scope pos) k iter acc X.env rest) (tBx G C (clB oi f ot B ws) ws) :=
  nb_cl hx hc hk ht (zv_of (P := fun Z' => PI X tg iter (tI Z' oi)) hi) hg (zv_of (P := fun Z' => PTs X ifs (tT Z' ot)) hts) hb hv hs htn
theorem n_compG (own : List (PySem.Str × Nat)) (hN : X.N.Nodup) (hi : PI X tg iter (tI Z oi)) (ht : TgOk Z.G (own.map (·.2)) g f)
    (hg : ∀ (s : Shared) (H : Hp) (C : Addr) (cl : List (PySem.Str × Addr)) (fp : List Addr), PG (X.blk s H scope (compEnvC scope cl C X.env) fp) tg g)
    (hT : ∀ (F0 H0 : Hp) (as : List Addr) (s : Shared) (H : Hp) (C : Addr) (cl : List (PySem.Str × Addr)) (fp : List Addr), PTs (X.blk s H scope (compEnvC scope cl C X.env) fp) ifs (tT (Zv Z.G Z.C F0 H0 as) ot))
    (hb : ∀ (s : Shared) (H : Hp) (C : Addr) (cl : List (PySem.Str × Addr)) (fp : List Addr), PB (X.blk s H scope (compEnvC scope cl C X.env) fp) ws' (fun acc rest => body acc (compEnvC scope cl C X.env) rest) (tBx Z.G Z.C B ws')) (hc : X.calm = true := by rfl)
    (ok : BlkOk X.N X.env.scope scope own := by exact blkOk_by (by rfl)) (nd : (own.map (·.2)).Nodup := by decide) (hv : ∀ i ∈ ws', i ∈ own.map (·.2) := by simp)
    (htn : ∀ it acc env, compTurn (lcE elt tg iter ifs gs scope pos) 0 it acc env = turnF (lcE elt tg iter ifs gs scope pos) 0 tg iter.pos ifs (body acc env) it acc env := by intros; rfl)
    (hs : ∀ x, foldedSetIterable iter X.env x = pure x := by intro _; rfl) : PE X (lcE elt tg iter ifs gs scope pos) (tE Z (oLcG oi f ot B (own.map (·.2)))) :=
  n_lcG hc hN hi ok nd ht hg (zv_of (G := Z.G) (C := Z.C) (P := fun Z' => ∀ (s : Shared) (H : Hp) (C : Addr) (cl : List (PySem.Str × Addr)) (fp : List Addr), PTs (X.blk s H scope (compEnvC scope cl C X.env) fp) ifs (tT Z' ot)) hT) hb hv htn hs
theorem n_asgCompG (i : Nat) (own : List (PySem.Str × Nat)) (hN : X.N.Nodup) (hi : PI X tg iter (tI Z oi)) (ht : TgOk Z.G (own.map (·.2)) g f)
    (hg : ∀ (s : Shared) (H : Hp) (C : Addr) (cl : List (PySem.Str × Addr)) (fp : List Addr), PG (X.blk s H scope (compEnvC scope cl C X.env) fp) tg g)
    (hT : ∀ (F0 H0 : Hp) (as : List Addr) (s : Shared) (H : Hp) (C : Addr) (cl : List (PySem.Str × Addr)) (fp : List Addr), PTs (X.blk s H scope (compEnvC scope cl C X.env) fp) ifs (tT (Zv Z.G Z.C F0 H0 as) ot))
    (hb : ∀ (s : Shared) (H : Hp) (C : Addr) (cl : List (PySem.Str × Addr)) (fp : List Addr), PB (X.blk s H scope (compEnvC scope cl C X.env) fp) ws' (fun acc rest => body acc (compEnvC scope cl C X.env) rest) (tBx Z.G Z.C B ws')) (hc : X.calm = true := by rfl)
    (ok : BlkOk X.N X.env.scope scope own := by exact blkOk_by (by rfl)) (nd : (own.map (·.2)).Nodup := by decide) (hv : ∀ i ∈ ws', i ∈ own.map (·.2) := by simp)
    (htn : ∀ it acc env, compTurn (lcE elt tg iter ifs gs scope pos) 0 it acc env = turnF (lcE elt tg iter ifs gs scope pos) 0 tg iter.pos ifs (body acc env) it acc env := by intros; rfl)
    (hsw : swapsWith (lcE elt tg iter ifs gs scope pos) (some (.Name y py)) spos.line X.env = pure true := by rfl)
    (hy : X.N[i]? = some y := by rfl) (hyl : X.env.scope.names.lookup y = some .local := by rfl) (hs : ∀ x, foldedSetIterable iter X.env x = pure x := by intro _; rfl) :
    PS X (.Assign [.Name y py] (lcE elt tg iter ifs gs scope pos) spos) (tS Z (sAsg i (oLcG oi f ot B (own.map (·.2))))) :=
  n_asgLcG i hc hN hi ok nd ht hg (zv_of (G := Z.G) (C := Z.C) (P := fun Z' => ∀ (s : Shared) (H : Hp) (C : Addr) (cl : List (PySem.Str × Addr)) (fp : List Addr), PTs (X.blk s H scope (compEnvC scope cl C X.env) fp) ifs (tT Z' ot)) hT) hb hv htn hsw hy hyl hs
end
/-! ### x += n, a name's own number -/
def sAugN (i : Nat) (f : Int → Int → Int) (oa : FE.Env → OE) : FE.Env → OS := fun env => match env[i]? with
  | some (.sh (.int x)) => (oa env).bindS fun r e1 => match r.fz with
    | .int y => if noIo e1[i]? = true then .nx (e1.set i (.sh (.int (f x y)))) else .bad
    | _ => .bad
  | _ => .bad
section
variable {X : Cx} {Z : Zd} {a : Expr} {oa : FE.Env → OE} {pos pos' : Pos}
theorem n_augN (i : Nat) {x : PySem.Str} {op : Operator} {f : Int → Int → Int} (hN : X.N.Nodup) (hp : PIp X op (ipI f)) (ha : PE X a (tE Z oa)) (hi : X.N[i]? = some x := by rfl) (hx : Loc X.env.scope x := by first | exact .inl rfl | exact .inr rfl)
    (hf : X.fn x = true ∨ X.env.scope.names.lookup x = some .local := by first | exact .inl rfl | exact .inr rfl) : PS X (.AugAssign (.Name x pos') op a pos) (tS Z (sAugN i f oa)) := by
  refine PS.imp (ps_aug hN hi hx ha hp hf) fun Dn σ H ⟨F, env, g, h⟩ => ?_
  unfold sAugN at h
  cases q : env[i]? with
  | none => rw [q] at h; exact h.elim
  | some s =>
    rw [q] at h
    cases s <;> try exact h.elim
    rename_i d
    cases d <;> try exact h.elim
    rename_i n
    obtain ⟨v, hv, rv⟩ := g.sh i _ q
    cases rv
    refine ⟨.int n, hv, ?_⟩
    refine seqES g h fun r env1 w H1 F1 g1 x1 r1 h1 => ?_
    obtain ⟨F2, g2, x2, r2⟩ := g1.give r1
    replace h1 := PostS.up x2 h1
    generalize r.fz = dd at h1 r2
    cases dd <;> try exact h1.elim
    rename_i m
    cases r2
    dsimp only at h1
    split at h1
    case isFalse => exact h1.elim
    rename_i c
    exact ⟨n, m, rfl, rfl, h1 _ H1 F2 (g2.asg (r := .sh (.int (f n m))) (.int (f n m)) c) (Ex.refl F2)⟩
end
end FE

namespace FE
open PySem PySem.Spec PyProof.Rows L2
/-! ### T.get(k), T a table of the top with numbers at its keys -/
def KIv (K : PySem.W.Frag) (w : World) (d : Addr) (kvs : List (PySem.Str × Int)) : Prop := ∃ es n, KDict K w d es n ∧ ∀ z, ∃ r, PySem.W.nsIn K d z = some r ∧ match kvs.lookup z with
  | some i => ∃ u, r = some u ∧ RelV (.int i) u
  | none => r = none
theorem lookup_mem' {z : PySem.Str} {i : Int} : ∀ {kvs : List (PySem.Str × Int)}, kvs.lookup z = some i → (z, i) ∈ kvs
  | [], h => by cases h
  | (k, v) :: r, h => by
    rw [List.lookup_cons] at h
    cases e : z == k with
    | true =>
      rw [e] at h
      cases h
      rw [LawfulBEq.eq_of_beq e]
      exact List.mem_cons_self
    | false =>
      rw [e] at h
      exact List.mem_cons_of_mem _ (lookup_mem' h)
theorem lookup_none' {z : PySem.Str} : ∀ {kvs : List (PySem.Str × Int)}, kvs.lookup z = none → z ∉ kvs.map (·.1)
  | [], _, h => by cases h
  | (k, v) :: r, h, m => by
    rw [List.lookup_cons] at h
    cases e : z == k with
    | true =>
      rw [e] at h
      cases h
    | false =>
      rw [e] at h
      rcases List.mem_cons.mp m with rfl | m
      · rw [beq_self_eq_true] at e
        cases e
      · exact lookup_none' h m
theorem kiv_ok {K : PySem.W.Frag} {w : World} {a : Addr} {kvs : List (PySem.Str × Int)} (h : KIn K w a (kvs.map (·.1))) (hv : He.valsB K a (kvs.map fun q => (q.1, .int q.2)) = true) : KIv K w a kvs := by
  obtain ⟨es, n, D, hz⟩ := h
  refine ⟨es, n, D, fun z => ?_⟩
  obtain ⟨r, e1, e2⟩ := hz z
  refine ⟨r, e1, ?_⟩
  cases q : kvs.lookup z with
  | none =>
    have : z ∉ kvs.map (·.1) := lookup_none' q
    rw [decide_eq_false this] at e2
    cases r with
    | none => rfl
    | some u => cases e2
  | some i =>
    obtain ⟨u, h1, h2⟩ := He.valsB_ok hv (List.mem_map.mpr ⟨(z, i), lookup_mem' q, rfl⟩)
    have h1' : PySem.W.nsIn K a z = some (some u) := h1
    rw [e1] at h1'
    cases h1'
    exact ⟨u, rfl, h2⟩
def getF : Option Int → D
  | some i => .int i
  | none => .non
def getK (kvs : List (PySem.Str × Int)) : D → Option R
  | .str z => some (.sh (getF (kvs.lookup z)))
  | _ => none
theorem e_getK (kvs : List (PySem.Str × Int)) (z : PySem.Str) : getK kvs (.str z) = some (.sh (getF (kvs.lookup z))) := (rfl)
theorem e_getF_s (i : Int) : getF (some i) = .int i := (rfl)
theorem e_getF_n : getF none = .non := (rfl)
section
variable {X : Cx} {Z : Zd} {a o e : Expr} {oa : FE.Env → OE} {d : Addr} {kvs : List (PySem.Str × Int)} {x : PySem.Str} {p pos apos cpos : Pos} {td ty : TE}
def tKGet (X : Cx) (d : Addr) (td ty : TE) : TE := fun σ H Q => td σ H fun x H1 => x = .ref d ∧ ty σ H1 fun y H2 => ∃ z r v, y = .str z ∧ PySem.W.nsIn X.K d z = some r ∧ (match r with
  | some u => RelV v u
  | none => v = .non) ∧ Q v H2
theorem pe_kdget1 {es : Array DictEntry} {n : Nat} (D : KDict X.K X.w d es n) (ho : PE X o td) (he : PE X e ty) (m : M1 X o "get" apos e cpos) : PE X (.Call (.Attribute o "get" apos) [e] [] cpos) (tKGet X d td ty) := by
  refine ⟨fun pins s σ H Q I h => ?_⟩
  refine wpAny_Call_method m.base m.few m.line PySem.F.plainAttrs_dict PySem.F.slot_dict_get PySem.F.type_dict_get (thn (ho.run pins s σ H _ I h) fun u s1 ⟨x, H1, I1, rx, ex, q1⟩ => ?_)
  subst ex
  obtain rfl : u = Value.ref d := rx
  refine ⟨kd_type D I1, fun b q => ?_, ?_⟩
  · cases q
    exact ⟨_, I1.kIn _ _ D.at_, rfl⟩
  rw [m.trees]
  refine Calls.callWith_builtin rfl (Calls.evalArgs_plain (Calls.spliced_cons (thn (he.run pins s1 σ H1 _ I1 q1) fun iv s2 ⟨y, H2, I2, ry, z, r, v, ey, e1, e2, q2⟩ => Calls.spliced_nil ?_)))
  subst ey
  obtain ⟨t, rfl⟩ := ry
  have hm := PySem.W.mapOf_K (prog := X.prog) (w := X.w) I2.kIn D.at_ D.lit
  refine call_meetsIn PySem.F.slot_dict_get hm.typeIs PySem.F.entry_dict_get (PySem.F.args_dict_get_2 _ _) (meets_dict_get (PySem.strKind X.prog X.w) d (PySem.strKind_is X.prog X.w z t) D.low) ⟨_, hm, ?_⟩
  rw [PySem.W.find_K D.at_ e1]
  cases r with
  | none =>
    subst e2
    exact ⟨.non, H2, I2.tok _, rfl, q2⟩
  | some u => exact ⟨v, H2, I2.tok _, e2, q2⟩
theorem n_getK (hm : X.mg x = some (.ref d)) (hk : KIv X.K X.w d kvs) (ha : PE X a (tE Z oa)) (hg : Gl X x := by rfl) (hd : (x == ("__debug__" : PySem.Str)) = false := by decide)
    (m : M1 X (.Name x p) "get" apos a cpos := by exact ⟨rfl, rfl, rfl, rfl⟩) : PE X (.Call (.Attribute (.Name x p) "get" apos) [a] [] cpos) (tE Z (oUn (getK kvs) oa)) := by
  obtain ⟨es, n, D, hz⟩ := hk
  refine PE.imp (pe_kdget1 D (pe_glob (v := .ref d) hg hm rfl hd) ha m) fun σ H Q ⟨F, env, g, h⟩ => ?_
  refine ⟨rfl, ?_⟩
  refine seqE g h fun r1 env1 v1 H1 F1 g1 x1 rp1 h1 => ?_
  generalize r1.fz = dd at h1 rp1
  cases dd <;> try exact h1.elim
  rename_i z
  cases rp1
  obtain ⟨r, e1, e2⟩ := hz z
  cases q : kvs.lookup z with
  | none =>
    rw [q] at e2
    subst e2
    refine ⟨z, none, .non, rfl, e1, rfl, ?_⟩
    have h1' : PostE Z F1 σ Q (.ok (.sh (getF (kvs.lookup z))) env1) := h1
    rw [q] at h1'
    exact h1' .non H1 F1 g1 (Ex.refl F1) .non
  | some i =>
    rw [q] at e2
    obtain ⟨u, rfl, e3⟩ := e2
    refine ⟨z, some u, .int i, rfl, e1, e3, ?_⟩
    have h1' : PostE Z F1 σ Q (.ok (.sh (getF (kvs.lookup z))) env1) := h1
    rw [q] at h1'
    exact h1' (.int i) H1 F1 g1 (Ex.refl F1) (.int i)
end
/-! ### int of a truth or a number -/
def intB : List D → Option R
  | [.int i] => some (.sh (.int i))
  | [.bl b] => some (.sh (.int (if b = true then 1 else 0)))
  | _ => none
theorem e_intB_i (i : Int) : intB [.int i] = some (.sh (.int i)) := (rfl)
theorem e_intB_b (b : Bool) : intB [.bl b] = some (.sh (.int (if b = true then 1 else 0))) := (rfl)
theorem s_intB {G : Gd} : SCall G (fun xs H Q => (∃ i, xs = [.int i] ∧ Q (.int i) H) ∨ ∃ k, xs = [.bl k] ∧ Q (.int (if k then 1 else 0)) H) intB := by
  intro Z F σ H env xs ds z Q hG g r h q
  unfold intB at h
  split at h
  · obtain ⟨v, rfl, rv⟩ := r.one
    cases rv; cases h
    exact .inl ⟨_, rfl, q _ H F g (Ex.refl F) (.int _)⟩
  · obtain ⟨v, rfl, rv⟩ := r.one
    cases rv; cases h
    exact .inr ⟨_, rfl, q _ H F g (Ex.refl F) (.int _)⟩
  · cases h
/-! ### xs.reverse() -/
def revO (i : Nat) (env : FE.Env) : Option (List D) → OS
  | some ds => nxO (setOwn env i ds.reverse)
  | none => .bad
def sRevL (i : Nat) : FE.Env → OS := fun env => revO i env (env[i]?.bind Own)
theorem e_revL (i : Nat) (env : FE.Env) : sRevL i env = revO i env (env[i]?.bind Own) := (rfl)
theorem e_revO (i : Nat) (env : FE.Env) (ds : List D) : revO i env (some ds) = nxO (setOwn env i ds.reverse) := (rfl)
section
variable {X : Cx} {Z : Zd}
theorem n_revL (i : Nat) {x : PySem.Str} {p apos cpos pos : Pos} (hN : X.N[i]? = some x := by rfl) (hv : Vis X.env.scope x := by first | exact Or.inl rfl | exact Or.inr (Or.inl rfl) | exact Or.inr (Or.inr rfl)) (hd : (x == ("__debug__" : PySem.Str)) = false := by decide)
    (hcd : (x == ("__classdict__" : PySem.Str)) = false := by decide) (hline : (apos.endLine == cpos.line) = true := by rfl) :
    PS X (.Expr (.Call (.Attribute (.Name x p) "reverse" apos) [] [] cpos) pos) (tS Z (sRevL i)) := by
  refine PS.imp (ps_expr (pe_bm0 PySem.F.plainAttrs_list PySem.F.slot_list_reverse PySem.F.type_list_reverse mt_reverse (pe_var hN hv hd hcd) (hline := hline))) fun Dn σ H ⟨F, env, g, h⟩ => ?_
  unfold sRevL at h
  cases ho : env[i]?.bind Own with
  | none => rw [ho] at h; exact h.elim
  | some ds =>
    rw [ho] at h
    unfold revO at h
    dsimp only at h
    cases he : setOwn env i ds.reverse with
    | none => rw [he] at h; exact h.elim
    | some env5 =>
      rw [he] at h
      obtain ⟨s0, k1, k2⟩ := own_get ho
      obtain ⟨a0, vs0, hu, k3, k4, k5, k6⟩ := g.ow i s0 ds k1 k2
      refine ⟨.ref a0, hu, .inl ⟨rfl, _, .inl (.inl k3)⟩, a0, vs0, rfl, rfl, k3, ?_⟩
      exact h σ _ F (g.wr k1 k2 hu k3 k5.reverse he) (Ex.refl F)
end
end FE

namespace FE
open PySem PySem.Spec PyProof.Rows L2
/-! ### .. each clause by its place -/
section
variable {X : Cx} {Z : Zd} {G : Gd} {C : CZ} {elt tg iter tg' iter' : Expr} {ifs ifs' : List Expr} {gs : List Comprehension} {scope : Scope} {pos spos py : Pos} {oi : FE.Env → OI} {g : TG} {f : D → FE.Env → Option FE.Env} {ot : FE.Env → OT} {oe : FE.Env → OE} {i k : Nat} {y : PySem.Str} {B : List D → FE.Env → Option (List D × FE.Env)} {ws' : List Nat}
theorem cb_last (ws : List Nat) (hk : gs[k]? = some ⟨tg, iter, ifs, 0⟩) (hi : ∀ (F0 H0 : Hp) (as : List Addr), PI X tg iter (tI (Zv G C F0 H0 as) oi)) (ht : TgOk G ws g f) (hg : PG X tg g) (hts : ∀ (F0 H0 : Hp) (as : List Addr), PTs X ifs (tT (Zv G C F0 H0 as) ot))
    (he : ∀ (F0 H0 : Hp) (as : List Addr), PE X elt (tE (Zv G C F0 H0 as) oe)) (hc : X.calm = true := by rfl) (hx : ∀ e s, X.xe e s → False := by exact fun _ _ h => h) (hs : ∀ x, foldedSetIterable iter X.env x = pure x := by intro _; rfl)
    (htn : ∀ it acc, compTurn (.ListComp elt gs scope pos) k it acc X.env = turnF (.ListComp elt gs scope pos) k tg iter.pos ifs (fun rest => bodyE elt acc X.env rest) it acc X.env := by intros; rfl) :
    PB X ws (fun acc rest => bodyC (.ListComp elt gs scope pos) k iter acc X.env rest) (tBx G C (clB oi f ot (eltB oe) ws) ws) :=
  cb_cl (bodyv := fun acc rest => bodyE elt acc X.env rest) ws hi ht hg hts (cb_elt he hx) hk hc hx (fun i h => by cases h) hs htn
theorem cb_more (ws : List Nat) (hk : gs[k]? = some ⟨tg, iter, ifs, 0⟩) (hk' : gs[k + 1]? = some ⟨tg', iter', ifs', 0⟩) (hi : ∀ (F0 H0 : Hp) (as : List Addr), PI X tg iter (tI (Zv G C F0 H0 as) oi)) (ht : TgOk G ws g f) (hg : PG X tg g) (hts : ∀ (F0 H0 : Hp) (as : List Addr), PTs X ifs (tT (Zv G C F0 H0 as) ot))
    (hb : PB X ws' (fun acc rest => bodyC (.ListComp elt gs scope pos) (k + 1) iter' acc X.env rest) (tBx G C B ws')) (hc : X.calm = true := by rfl) (hx : ∀ e s, X.xe e s → False := by exact fun _ _ h => h) (hv : ∀ i ∈ ws', i ∈ ws := by decide) (hs : ∀ x, foldedSetIterable iter X.env x = pure x := by intro _; rfl)
    (htn : ∀ it acc, compTurn (.ListComp elt gs scope pos) k it acc X.env = turnF (.ListComp elt gs scope pos) k tg iter.pos ifs (fun rest => bodyC (.ListComp elt gs scope pos) (k + 1) iter' acc X.env rest) it acc X.env := by intros; rfl) :
    PB X ws (fun acc rest => bodyC (.ListComp elt gs scope pos) k iter acc X.env rest) (tBx G C (clB oi f ot B ws) ws) :=
  cb_cl (bodyv := fun acc rest => bodyC (.ListComp elt gs scope pos) (k + 1) iter' acc X.env rest) ws hi ht hg hts hb hk hc hx hv hs htn
theorem n_comp2 (own : List (PySem.Str × Nat)) (hN : X.N.Nodup) (hi : PI X tg iter (tI Z oi)) (ht : TgOk Z.G (own.map (·.2)) g f)
    (hg : ∀ (s : Shared) (H : Hp) (C : Addr) (cl : List (PySem.Str × Addr)) (fp : List Addr), PG (X.blk s H scope (compEnvC scope cl C X.env) fp) tg g)
    (hT : ∀ (F0 H0 : Hp) (as : List Addr) (s : Shared) (H : Hp) (C : Addr) (cl : List (PySem.Str × Addr)) (fp : List Addr), PTs (X.blk s H scope (compEnvC scope cl C X.env) fp) ifs (tT (Zv Z.G Z.C F0 H0 as) ot))
    (hb : ∀ (s : Shared) (H : Hp) (C : Addr) (cl : List (PySem.Str × Addr)) (fp : List Addr), PB (X.blk s H scope (compEnvC scope cl C X.env) fp) ws' (fun acc rest => bodyC (lcE elt tg iter ifs (⟨tg', iter', ifs', 0⟩ :: gs) scope pos) 1 iter' acc (X.blk s H scope (compEnvC scope cl C X.env) fp).env rest) (tBx Z.G Z.C B ws')) (hc : X.calm = true := by rfl)
    (ok : BlkOk X.N X.env.scope scope own := by exact blkOk_by (by rfl)) (nd : (own.map (·.2)).Nodup := by decide) (hv : ∀ i ∈ ws', i ∈ own.map (·.2) := by decide)
    (htn : ∀ it acc env, compTurn (lcE elt tg iter ifs (⟨tg', iter', ifs', 0⟩ :: gs) scope pos) 0 it acc env = turnF (lcE elt tg iter ifs (⟨tg', iter', ifs', 0⟩ :: gs) scope pos) 0 tg iter.pos ifs (bodyC (lcE elt tg iter ifs (⟨tg', iter', ifs', 0⟩ :: gs) scope pos) 1 iter' acc env) it acc env := by intros; rfl)
    (hs : ∀ x, foldedSetIterable iter X.env x = pure x := by intro _; rfl) : PE X (lcE elt tg iter ifs (⟨tg', iter', ifs', 0⟩ :: gs) scope pos) (tE Z (oLcG oi f ot B (own.map (·.2)))) :=
  n_compG (body := fun acc env rest => bodyC (lcE elt tg iter ifs (⟨tg', iter', ifs', 0⟩ :: gs) scope pos) 1 iter' acc env rest) own hN hi ht hg hT hb hc ok nd hv htn hs
theorem n_asgComp2 (i : Nat) (own : List (PySem.Str × Nat)) (hN : X.N.Nodup) (hi : PI X tg iter (tI Z oi)) (ht : TgOk Z.G (own.map (·.2)) g f)
    (hg : ∀ (s : Shared) (H : Hp) (C : Addr) (cl : List (PySem.Str × Addr)) (fp : List Addr), PG (X.blk s H scope (compEnvC scope cl C X.env) fp) tg g)
    (hT : ∀ (F0 H0 : Hp) (as : List Addr) (s : Shared) (H : Hp) (C : Addr) (cl : List (PySem.Str × Addr)) (fp : List Addr), PTs (X.blk s H scope (compEnvC scope cl C X.env) fp) ifs (tT (Zv Z.G Z.C F0 H0 as) ot))
    (hb : ∀ (s : Shared) (H : Hp) (C : Addr) (cl : List (PySem.Str × Addr)) (fp : List Addr), PB (X.blk s H scope (compEnvC scope cl C X.env) fp) ws' (fun acc rest => bodyC (lcE elt tg iter ifs (⟨tg', iter', ifs', 0⟩ :: gs) scope pos) 1 iter' acc (X.blk s H scope (compEnvC scope cl C X.env) fp).env rest) (tBx Z.G Z.C B ws')) (hc : X.calm = true := by rfl)
    (ok : BlkOk X.N X.env.scope scope own := by exact blkOk_by (by rfl)) (nd : (own.map (·.2)).Nodup := by decide) (hv : ∀ i ∈ ws', i ∈ own.map (·.2) := by decide)
    (htn : ∀ it acc env, compTurn (lcE elt tg iter ifs (⟨tg', iter', ifs', 0⟩ :: gs) scope pos) 0 it acc env = turnF (lcE elt tg iter ifs (⟨tg', iter', ifs', 0⟩ :: gs) scope pos) 0 tg iter.pos ifs (bodyC (lcE elt tg iter ifs (⟨tg', iter', ifs', 0⟩ :: gs) scope pos) 1 iter' acc env) it acc env := by intros; rfl)
    (hsw : swapsWith (lcE elt tg iter ifs (⟨tg', iter', ifs', 0⟩ :: gs) scope pos) (some (.Name y py)) spos.line X.env = pure true := by rfl)
    (hy : X.N[i]? = some y := by rfl) (hyl : X.env.scope.names.lookup y = some .local := by rfl) (hs : ∀ x, foldedSetIterable iter X.env x = pure x := by intro _; rfl) :
    PS X (.Assign [.Name y py] (lcE elt tg iter ifs (⟨tg', iter', ifs', 0⟩ :: gs) scope pos) spos) (tS Z (sAsg i (oLcG oi f ot B (own.map (·.2))))) :=
  n_asgCompG (body := fun acc env rest => bodyC (lcE elt tg iter ifs (⟨tg', iter', ifs', 0⟩ :: gs) scope pos) 1 iter' acc env rest) i own hN hi ht hg hT hb hc ok nd hv htn hsw hy hyl hs
end
end FE

namespace FE
open PySem PySem.Spec PyProof.Rows L2
/-! ### x in t, t a tuple, x of any kind -/
theorem str_eq_declines_dict (b : PySem.Str) (u : Tok) (l : Addr) (c : Value) (es : Array DictEntry) (n : Nat) (dd : Option Addr) (sl : Array (Option Value)) :
    Meets (Builtin.«str.__eq__» ⟨[.str b u, .ref l], []⟩) (fun _ R s => s.heap.get? l = some { cls := c, dict := dd, data := .dict es n, slots := sl } ∧ R (.ok (.ret .notImplemented)) s) :=
  .of_wp fun prog w A R s h => by obtain ⟨hp, g, d, tk, os⟩ := s; obtain ⟨hl, h⟩ := h; wp_walk using wpAny_loadPart' hl, wpAny_load hl; exact ⟨_, rfl, h⟩
theorem dict_eq_declines_str (l : Addr) (es : Array DictEntry) (n : Nat) (dd : Option Addr) (sl : Array (Option Value)) (b : PySem.Str) (u : Tok) :
    Meets (Builtin.«dict.__eq__» ⟨[.ref l, .str b u], []⟩) (fun _ R s => s.heap.get? l = some { cls := .type "dict", dict := dd, data := .dict es n, slots := sl } ∧ R (.ok (.ret .notImplemented)) s) :=
  .of_wp fun prog w A R s h => by obtain ⟨hp, g, d, tk, os⟩ := s; obtain ⟨hl, h⟩ := h; have f1 := F.sub_str_dict; wp_walk using wpAny_loadPart' hl, wpAny_load hl; exact ⟨_, rfl, h⟩
theorem rc_str_dict {A : Around} {s : Shared} {l : Addr} {es : Array DictEntry} {n : Nat} {dd : Option Addr} {sl : Array (Option Value)} (b : PySem.Str) (u : Tok) (ho : s.heap.get? l = some { cls := .type "dict", dict := dd, data := .dict es n, slots := sl }) (hu : A.units < cLine) : SeqAt.RcAt A s (.str b u) (.ref l) false := fun prog w E Q h =>
  SeqAt.rc_eq_decline_or (k := false) (typeIs_str s b u) ⟨_, ho, rfl⟩ (by decide) (by rw [isSubtype_type]; kernel_rfl) F.slot_str_eq F.slot_dict_eq_refl
    (fun _ hq => call_meets F.slot_str_eq (typeIs_str s b u) F.entry_str_eq (F.args_str_eq_2 _ _) (str_eq_declines_dict b u l (.type "dict") es n dd sl) ⟨ho, hq⟩)
    (fun _ hq => call_meets F.slot_dict_eq_refl ⟨_, ho, rfl⟩ F.entry_dict_eq (F.args_dict_eq_2 _ _) (dict_eq_declines_str l es n dd sl b u) ⟨ho, hq⟩)
    (fun _ hq => wpAny_of_eq (rfl : isSame (.str b u) (.ref l) = pure false) hq) (.inr hu) h
theorem eq_str_dict {A : Around} {s : Shared} {l : Addr} {es : Array DictEntry} {n : Nat} {dd : Option Addr} {sl : Array (Option Value)} (b : PySem.Str) (u : Tok) (ho : s.heap.get? l = some { cls := .type "dict", dict := dd, data := .dict es n, slots := sl }) (hu : A.units < cLine) : SeqAt.EqAt A s (.str b u) (.ref l) false := fun prog w E Q h => by
  unfold eqBool
  refine wpAny_holding ?_
  refine wpAny_ite_split (fun hab => absurd (eq_of_beq hab) nofun) (fun _ => ?_)
  exact wpAny_bind (rc_str_dict b u ho hu prog w E _ (wpAny_truthy_bool h))
def rInT (K : PySem.W.Frag) : R2 := fun x y H Q => ∃ d ds, Dp K H x d ∧ Dp K H y (.tuple ds) ∧ SeqAt.shaped d = true ∧ SeqAt.shaped (.tuple ds) = true ∧ Q (.bl (ds.any fun z => PyData.eqv z d)) H
def rInS (K : PySem.W.Frag) : R2 := fun x y H Q => ∃ (a p : Addr) (kvs : List (Key × V)) (zs : List PySem.Str), x = .ref a ∧ H a = some (.dK kvs) ∧ y = .ref p ∧ SqT K H p (zs.map V.str) ∧ Q (.bl false) H
def rInG (K : PySem.W.Frag) : R2 := fun x y H Q => rInU K x y H Q ∨ rInT K x y H Q ∨ rInS K x y H Q
section
variable {X : Cx}
theorem op_inT (hu : X.A.units + 65 < cLine) : OpR X (compareOp .In) (rInT X.K) := by
  intro pins s σ H x y v u Q I rx ry h
  obtain ⟨d, ds, hd, he, sd, se, q⟩ := h
  obtain ⟨as, r1⟩ := Dp.reads I d x v hd rx
  obtain ⟨bs, r2⟩ := Dp.reads I (.tuple ds) y u he ry
  exact SeqAt.in_tuple_reads r2 r1 (SeqAt.canLay_of_shaped se) (SeqAt.canLay_of_shaped sd) (room_in_shaped sd hu) ⟨.bl _, H, I, rfl, q⟩
theorem vals_strs : ∀ {zs : List PySem.Str} {its : List Value}, Vals (zs.map V.str) its → ∀ w ∈ its, ∃ z t, w = .str z t
  | [], _, r, w, hw => by
    cases r
    cases hw
  | z :: zs, _, r, w, hw => by
    cases r with
    | cons r1 r2 =>
      rcases List.mem_cons.mp hw with rfl | hw
      · obtain ⟨t, rfl⟩ := r1
        exact ⟨z, t, rfl⟩
      · exact vals_strs r2 w hw
theorem op_inS (hu : X.A.units + 65 < cLine) : OpR X (compareOp .In) (rInS X.K) := by
  intro pins s σ H x y v u Q I rx ry h
  obtain ⟨a, p, kvs, zs, rfl, hH, rfl, hq, q⟩ := h
  cases rx; cases ry
  obtain ⟨its, r, pl, hz⟩ := I.tuple hq
  obtain ⟨_, hs, ws, kv, o, es, ep, e1, e2, e3, e4, e5, _⟩ := I.hok a _ hH
  obtain ⟨oc, od, dt, sl⟩ := o
  have e21 : oc = .type "dict" := e2.1
  have e31 : dt = .dict es ep := e3
  subst e21 e31
  refine SeqAt.in_tupleAt (fun _ => false) pl (fun w hw => ?_) ⟨.bl _, H, I, rfl, ?_⟩
  · obtain ⟨z, t, rfl⟩ := vals_strs r w (by simpa using hw)
    exact eq_str_dict z t e1 (by show X.A.units + 1 < cLine; omega)
  · rw [show its.toArray.any (fun _ => false) = false by simp]
    exact q
theorem op_inG (hu : X.A.units + 65 < cLine) : OpR X (compareOp .In) (rInG X.K) := (op_inU hu).or ((op_inT hu).or (op_inS hu))
end
def inH (d e : D) : Option Bool := match e with
  | .tup es => if okD d && okD (.tup es) then some (es.any fun z => PyData.eqv z.pyd d.pyd) else (match d with
    | .dic _ _ => (strsD es).map fun _ => false
    | _ => none)
  | _ => none
def inG : D → D → Option R := fun d e => bR ((inD d e).or (inH d e))
theorem strsD_rep {G : Gd} {F : Hp} : ∀ {ds : List D} {vs : List V} {zs : List PySem.Str}, strsD ds = some zs → RepL G F vs ds → vs = zs.map V.str
  | [], _, _, h, r => by
    cases r
    cases h
    rfl
  | d :: ds, _, zs, h, r => by
    cases r with
    | cons r1 r2 =>
      cases d <;> try cases h
      rename_i i
      have h' : (strsD ds).map (fun x => i :: x) = some zs := h
      cases e2 : strsD ds with
      | none => rw [e2] at h'; cases h'
      | some ws =>
        rw [e2] at h'
        cases h'
        cases r1
        rw [strsD_rep e2 r2]
        rfl
theorem s_inG {G : Gd} : SOp G (rInG G.K) inG := by
  intro Z F σ H env x y d e z Q hG g rx ry h q
  unfold inG at h
  cases q0 : inD d e with
  | some b =>
    rw [q0] at h
    refine .inl (s_in Z F σ H env x y d e z Q hG g rx ry ?_ q)
    unfold inF
    rw [q0]
    exact h
  | none =>
    rw [q0, Option.none_or] at h
    cases q1 : inH d e with
    | none => rw [q1] at h; cases h
    | some b =>
      rw [q1] at h
      cases h
      have fin : Q (.bl b) H := q _ H F g (Ex.refl F) (.bl b)
      subst hG
      unfold inH at q1
      cases ry with
      | tup h1 r1 =>
        rename_i b0 ws es
        have ry := Rep.tup h1 r1
        dsimp only at q1
        split at q1
        · rename_i c
          rw [Bool.and_eq_true] at c
          cases q1
          obtain ⟨p1, s1⟩ := okD_dp (rx.mono g.fh) c.1
          obtain ⟨p2, s2⟩ := okD_dp (ry.mono g.fh) c.2
          refine .inr (.inl ⟨_, _, p1, p2, s1, s2, ?_⟩)
          rw [any_pyd]
          exact fin
        · rename_i nc; clear nc; cases rx <;> try cases q1
          rename_i hF hl hr
          dsimp only at q1
          cases e2 : strsD es with
          | none => rw [e2] at q1; cases q1
          | some zs =>
            rw [e2] at q1
            cases q1
            have e3 := strsD_rep e2 r1
            refine .inr (.inr ⟨_, _, _, zs, rfl, g.fh _ _ hF, rfl, ?_, fin⟩)
            rw [← e3]
            exact g.fh.t h1.t
      | _ => cases q1
end FE

namespace FE
open PySem PySem.Spec PyProof.Rows L2
/-! ### repr of tuples with dicts in them -/
mutual
inductive Td (K : PySem.W.Frag) (H : Hp) : V → PyData → Prop
  | flat {v : V} {p : PyData} : Dp K H v p → flatP p = true → Td K H v p
  | tup {a : Addr} {xs : List V} {ds : List PyData} : SqT K H a xs → TdAll K H xs ds → Td K H (.ref a) (.tuple ds)
  | dic {a : Addr} {ks : List Key} {vs : List V} {ds : List PyData} : H a = some (.dK (ks.zip vs)) → ks.length = vs.length → DpAll K H vs ds → ds.all flatP = true → Td K H (.ref a) (.dict ((ks.map D.pyk).zip ds))
inductive TdAll (K : PySem.W.Frag) (H : Hp) : List V → List PyData → Prop
  | nil : TdAll K H [] []
  | cons {v : V} {vs : List V} {d : PyData} {ds : List PyData} : Td K H v d → TdAll K H vs ds → TdAll K H (v :: vs) (d :: ds)
end
section
variable {X : Cx} {pins : List (Addr × Obj)} {σ : L2.St} {H : Hp} {s : Shared}
mutual
theorem Td.reads (I : Inv X pins σ H s) : ∀ {v : V} {p : PyData} {u : Value}, Td X.K H v p → RelV v u → ∃ as, Reads s.heap u p as ∧ sysModules ∉ as
  | _, _, _, .flat a f, r => ⟨[], reads_flat a r f, by simp⟩
  | _, _, _, .tup (xs := xs) hq ha, r => by
    cases r
    obtain ⟨its, rv, ⟨o, e, hc, n, hd⟩, hz⟩ := I.tuple hq
    obtain ⟨as, k1, k2⟩ := TdAll.reads I ha rv
    exact ⟨as, .tuple e hc hd (by simpa using k1), k2⟩
  | _, _, _, .dic (a := a) hH hl hds hf, r => by
    cases r
    obtain ⟨_, hs, ws, kv, o, es, ep, e1, e2, e3, e4, e5, _⟩ := I.hok _ _ hH
    obtain ⟨k1, k2⟩ := pairs_reads (h := s.heap) e5 kv hl hds hf
    refine ⟨_, .dict e1 e2.1 e3 k1 k2, fun hm => ?_⟩
    have hm' : sysModules = a := by simpa using hm
    rw [hm'] at hs
    simp at hs
theorem TdAll.reads (I : Inv X pins σ H s) : ∀ {vs : List V} {ps : List PyData} {us : List Value}, TdAll X.K H vs ps → Vals vs us → ∃ as, ReadsAll s.heap us ps as ∧ sysModules ∉ as
  | _, _, _, .nil, r => by
    cases r
    exact ⟨[], .nil, by simp⟩
  | _, _, _, .cons h t, r => by
    cases r with
    | cons r1 r2 =>
      obtain ⟨as, a1, a2⟩ := Td.reads I h r1
      obtain ⟨bs, b1, b2⟩ := TdAll.reads I t r2
      exact ⟨_, .cons a1 b1, by simp [a2, b2]⟩
end
end
def rReprG (K : PySem.W.Frag) : List V → Hp → VK → Prop := fun xs H Q => rRepr K xs H Q ∨ ∃ (a : Addr) (p : PyData), xs = [.ref a] ∧ okShow p = true ∧ Td K H (.ref a) p ∧ Q (.str p.shown) H
theorem call_reprG {X : Cx} (hu : X.A.units + 150 < cLine) (hg : X.A.guards = some []) : CallR X (.builtin "repr") (rReprG X.K) := by
  intro pins s σ H xs us Q I r h
  rcases h with h | ⟨a, p, rfl, ok, hd, q⟩
  · exact call_reprU hu hg pins s σ H xs us Q I r h
  · obtain ⟨h1, h2, h3⟩ := okShow_fits ok
    obtain ⟨v, rfl, rv⟩ := vals1 r
    obtain ⟨as, k1, k2⟩ := Td.reads I hd rv
    cases rv
    exact repr_of_reads' k1 h1 (fun _ => k2) hg (by omega) (fun _ _ e => e) (fun h' u tk hk => ⟨.str _, H, I.kept (t' := tk) hk, ⟨u, rfl⟩, q⟩) h2
mutual
def tdD : D → Bool
  | .non => true
  | .bl _ => true
  | .int _ => true
  | .str _ => true
  | .tup ds => tdL ds
  | .dic ks ds => ds.all flatD && decide (ks.length = ds.length)
  | _ => false
def tdL : List D → Bool
  | [] => true
  | d :: ds => tdD d && tdL ds
end
mutual
def pyT : D → PyData
  | .bl b => .bool b
  | .int i => .int i
  | .str x => .str x
  | .tup ds => .tuple (pyTL ds)
  | .dic ks ds => .dict ((ks.map D.pyk).zip (pydL ds))
  | _ => .none
def pyTL : List D → List PyData
  | [] => []
  | d :: ds => pyT d :: pyTL ds
end
theorem flat_plainL : ∀ ds : List D, ds.all flatD = true → plainL ds = true
  | [], _ => rfl
  | d :: ds, f => by
    rw [List.all_cons, Bool.and_eq_true] at f
    rw [plainL, flat_plainL ds f.2, Bool.and_true]
    cases d <;> first | rfl | cases f.1
theorem flat_pydL : ∀ ds : List D, ds.all flatD = true → (pydL ds).all flatP = true
  | [], _ => rfl
  | d :: ds, f => by
    rw [List.all_cons, Bool.and_eq_true] at f
    rw [pydL, List.all_cons, flat_pydL ds f.2, Bool.and_true]
    cases d <;> first | rfl | cases f.1
section
variable {G : Gd} {F : Hp}
mutual
theorem Rep.td : ∀ {v : V} {d : D}, Rep G F v d → tdD d = true → Td G.K F v (pyT d)
  | _, _, .non, _ => .flat .non rfl
  | _, _, .bl b, _ => .flat (.bl b) rfl
  | _, _, .int i, _ => .flat (.int i) rfl
  | _, _, .str x, _ => .flat (.str x) rfl
  | _, _, .tup h r, p => by
    rw [tdD] at p
    rw [pyT]
    exact .tup h.t (RepL.td r p)
  | _, _, .dic h l r, p => by
    rw [tdD, Bool.and_eq_true, decide_eq_true_eq] at p
    rw [pyT]
    exact .dic h l (r.dp (flat_plainL _ p.1)) (flat_pydL _ p.1)
  | _, _, .wtp h r, p => by simp [tdD] at p
  | _, _, .lst h r, p => by simp [tdD] at p
  | _, _, .obj h h2 h3 h4 r, p => by simp [tdD] at p
  | _, _, .dev j x, p => by simp [tdD] at p
theorem RepL.td : ∀ {vs : List V} {ds : List D}, RepL G F vs ds → tdL ds = true → TdAll G.K F vs (pyTL ds)
  | _, _, .nil, _ => .nil
  | _, _, .cons h r, p => by
    rw [tdL, Bool.and_eq_true] at p
    exact .cons (Rep.td h p.1) (RepL.td r p.2)
end
end
def reprT : D → Option R
  | .tup ds => if tdL ds = true ∧ okShow (.tuple (pyTL ds)) = true then some (.sh (.str (PyData.shown (.tuple (pyTL ds))))) else none
  | _ => none
def reprG : List D → Option R
  | [d] => (reprF [d]).or (reprT d)
  | _ => none
theorem s_reprG {G : Gd} : SCall G (rReprG G.K) reprG := by
  intro Z F σ H env xs ds z Q hG g r h q
  unfold reprG at h
  split at h
  · rename_i d
    cases e : reprF [d] with
    | some z' =>
      rw [e, Option.some_or] at h
      cases h
      exact .inl (s_repr Z F σ H env xs [d] z Q hG g r e q)
    | none =>
      rw [e, Option.none_or] at h
      subst hG
      obtain ⟨v, rfl, rv⟩ := r.one
      cases rv with
      | tup h1 r1 =>
        unfold reprT at h
        dsimp only at h
        split at h
        · rename_i c
          cases h
          refine .inr ⟨_, _, rfl, c.2, ?_, q _ H F g (Ex.refl F) (.str _)⟩
          have := Rep.td ((Rep.tup h1 r1).mono g.fh) (by rw [tdD]; exact c.1)
          rw [pyT] at this
          exact this
        · cases h
      | _ => cases h
  · cases h
end FE

namespace FE
open PySem PySem.Spec PyProof.Rows L2
/-! ### z[::-1], z a text -/
def revStr (z : PySem.Str) : PySem.Str := ⟨z.cps.toList.reverse.toArray⟩
theorem picked_rev (z : PySem.Str) (u : Tok) : ((slicePicked z none none (some (-1, u))).filterMap (z.cps[·]?)).toArray = z.cps.toList.reverse.toArray := by
  obtain ⟨xs⟩ := z
  have e0 : slicePicked ⟨xs⟩ none none (some (-1, u)) = (List.range xs.size).map fun (k : Nat) => xs.size - 1 - k := by
    unfold slicePicked Builtin.Str.strSliceIndices sliceRange
    show (List.range ((if (-1 : Int) > 0 then (if ((if (-1 : Int) > 0 then (0 : Int) else (xs.size : Int) - 1)) < (if (-1 : Int) > 0 then (xs.size : Int) else -1) then _ else 0) else (if (if (-1 : Int) > 0 then (0 : Int) else (xs.size : Int) - 1) > (if (-1 : Int) > 0 then (xs.size : Int) else -1) then ((if (-1 : Int) > 0 then (0 : Int) else (xs.size : Int) - 1) - (if (-1 : Int) > 0 then (xs.size : Int) else -1) - (-1) - 1) / (- (-1)) else 0)) : Int).toNat).map (fun (k : Nat) => ((if (-1 : Int) > 0 then (0 : Int) else (xs.size : Int) - 1) + (-1) * (k : Int)).toNat) = _
    have h1 : ¬ ((-1 : Int) > 0) := by decide
    simp only [h1, if_false]
    have ec : (if (xs.size : Int) - 1 > -1 then ((xs.size : Int) - 1 - -1 - -1 - 1) / (- -1) else 0).toNat = xs.size := by
      have h2 : (- -1 : Int) = 1 := by decide
      simp only [h2, Int.ediv_one]
      split <;> omega
    rw [ec]
    refine List.map_congr_left fun k hk => ?_
    have := List.mem_range.mp hk
    omega
  rw [e0]
  show (((List.range xs.size).map fun k => xs.size - 1 - k).filterMap fun i => xs[i]?).toArray = _
  rw [PySem.W.krv_range, List.filterMap_reverse, PySem.W.krv_all]
def tSlRS (te : TE) (tl th ts : TO) : TE := fun σ H Q => te σ H fun x H1 => tl σ H1 fun l H2 => th σ H2 fun u H3 => ts σ H3 fun c H4 => l = none ∧ u = none ∧ c = some (-1) ∧ ∃ z, x = .str z ∧ z.length ≤ sizeLine ∧ Q (.str (revStr z)) H4
section
variable {X : Cx} {Z : Zd} {a : Expr} {oa : FE.Env → OE}
theorem pe_sliceRS {te : TE} {tl th ts : TO} {lo hi : Option Expr} {sc : Expr} {p2 pos : Pos} (he : PE X a te) (hl : PO X lo tl) (hu : PO X hi th) (hs : PO X (some sc) ts) : PE X (.Subscript a (.Slice lo hi (some sc) p2) pos) (tSlRS te tl th ts) := by
  constructor
  intro pins s σ H Q I h
  apply Subscript_
  refine thn (he.run pins s σ H _ I h) ?_
  rintro v s1 ⟨x, H1, I1, r1, q1⟩
  apply wpAny_Slice
  refine thn (hl.run pins s1 σ H1 _ I1 q1) ?_
  rintro vl s2 ⟨l, H2, I2, pl, q2⟩
  refine thn (hu.run pins s2 σ H2 _ I2 q2) ?_
  rintro vu s3 ⟨u, H3, I3, pu, q3⟩
  refine thn (hs.run pins s3 σ H3 _ I3 q3) ?_
  rintro vc s4 ⟨c, H4, I4, pc, rfl, rfl, rfl, z, rfl, hz, q4⟩
  have grown : ∀ (b : Addr) (ob : Obj), s4.heap.get? b = some ob → (s4.heap.push { cls := .type "slice", data := .fields #[vl, vu, vc] }).get? b = some ob := fun b ob z => Heap.get?_push_of_some _ z
  have I5 : L2.Inv X pins σ H4 ⟨s4.heap.push { cls := .type "slice", data := .fields #[vl, vu, vc] }, s4.gens, s4.drawn, s4.toks, s4.os⟩ := I4.kept (t' := s4.toks) grown
  obtain ⟨t, rfl⟩ := r1
  cases pl; cases pu; cases pc
  rename_i tc
  refine tail_any (T := "str") (ops := [.str z t, .ref s4.heap.objs.size]) (typeIs_str _ z t) F.slot_str_getitem.lookup ?_ (by with_unfolding_all rfl)
  refine wpAny_getItem_str_slice (l := none) (u := none) (st := some (-1, tc)) ⟨_, Heap.get?_push_size _ rfl, rfl, rfl⟩ rfl ?_
  have em : sliceMade z t none none (some (-1, tc)) = .str (revStr z) := by
    unfold sliceMade
    rw [if_neg (by show ¬ (((-1 : Int) == 1 && _) = true); simp)]
    rw [picked_rev]
    rfl
  rw [em]
  refine ⟨?_, ⟨.str (revStr z), H4, I5.tok _, ⟨_, rfl⟩, q4⟩⟩
  show (revStr z).cps.size ≤ sizeLine
  unfold revStr
  rw [List.size_toArray, List.length_reverse, Array.length_toList]
  exact hz
end
def s3S (e : FE.Env) : D → Option (Option Int) → Option (Option Int) → Option (Option Int) → OE
  | .lst ds, some l, some h, some c => if c = some 0 then .bad else .ok (.ow (pickL ds l h c)) e
  | .tup ds, some none, some none, some (some c) => if c = -1 then .ok (.sh (.tup ds.reverse)) e else .bad
  | .str z, some none, some none, some (some c) => if c = -1 ∧ z.cps.size ≤ 1000000 then .ok (.sh (.str (revStr z))) e else .bad
  | _, _, _, _ => .bad
def s3S4 (r1 r2 r3 r4 : R) (e : FE.Env) : OE := s3S e r1.fz (partO r2.fz) (partO r3.fz) (partO r4.fz)
def s3S3 (oc : FE.Env → OE) (r1 r2 r3 : R) (e : FE.Env) : OE := (oc e).bind (s3S4 r1 r2 r3)
def s3S2 (oh oc : FE.Env → OE) (r1 r2 : R) (e : FE.Env) : OE := (oh e).bind (s3S3 oc r1 r2)
def s3S1 (ol oh oc : FE.Env → OE) (r1 : R) (e : FE.Env) : OE := (ol e).bind (s3S2 oh oc r1)
def oSl3S (oa ol oh oc : FE.Env → OE) : FE.Env → OE := fun env => (oa env).bind (s3S1 ol oh oc)
theorem e_sl3S (oa ol oh oc : FE.Env → OE) (env : FE.Env) : oSl3S oa ol oh oc env = (oa env).bind (s3S1 ol oh oc) := (rfl)
theorem e_s3S1 (ol oh oc : FE.Env → OE) (r1 : R) (e : FE.Env) : s3S1 ol oh oc r1 e = (ol e).bind (s3S2 oh oc r1) := (rfl)
theorem e_s3S2 (oh oc : FE.Env → OE) (r1 r2 : R) (e : FE.Env) : s3S2 oh oc r1 r2 e = (oh e).bind (s3S3 oc r1 r2) := (rfl)
theorem e_s3S3 (oc : FE.Env → OE) (r1 r2 r3 : R) (e : FE.Env) : s3S3 oc r1 r2 r3 e = (oc e).bind (s3S4 r1 r2 r3) := (rfl)
theorem e_s3S4 (r1 r2 r3 r4 : R) (e : FE.Env) : s3S4 r1 r2 r3 r4 e = s3S e r1.fz (partO r2.fz) (partO r3.fz) (partO r4.fz) := (rfl)
theorem e_s3S_l (e : FE.Env) (ds : List D) (l h c : Option Int) : s3S e (.lst ds) (some l) (some h) (some c) = if c = some 0 then .bad else .ok (.ow (pickL ds l h c)) e := (rfl)
theorem e_s3S_t (e : FE.Env) (ds : List D) : s3S e (.tup ds) (some none) (some none) (some (some (-1))) = .ok (.sh (.tup ds.reverse)) e := (rfl)
theorem e_s3S_s (e : FE.Env) (z : PySem.Str) (h : z.cps.size ≤ 1000000) : s3S e (.str z) (some none) (some none) (some (some (-1))) = .ok (.sh (.str (revStr z))) e := if_pos ⟨rfl, h⟩
section
variable {X : Cx} {Z : Zd} {a : Expr} {oa : FE.Env → OE}
theorem n_slice3S {lo hi : Option Expr} {sc : Expr} {ol oh oc : FE.Env → OE} {p2 pos : Pos} (hK : Z.G.K = X.K) (ha : PE X a (tE Z oa)) (hl : PO X lo (tP Z ol)) (hh : PO X hi (tP Z oh)) (hc : PO X (some sc) (tP Z oc)) : PE X (.Subscript a (.Slice lo hi (some sc) p2) pos) (tE Z (oSl3S oa ol oh oc)) := by
  refine PE.imp (PE.or (n_slice3Q hK ha hl hh hc) (pe_sliceRS ha hl hh hc)) fun σ H Q ⟨F, env, g, h⟩ => ?_
  have left : oSl3S oa ol oh oc env = oSl3Q oa ol oh oc env → tE Z (oSl3Q oa ol oh oc) σ H Q := fun e => ⟨F, env, g, by rw [← e]; exact h⟩
  cases e : oa env with
  | bad =>
    refine .inl (left ?_)
    unfold oSl3S oSl3Q
    rw [e]
    rfl
  | exc x env1 =>
    refine .inl (left ?_)
    unfold oSl3S oSl3Q
    rw [e]
    rfl
  | ok r e1 =>
    cases q : r.fz
    case str z =>
      refine .inr ⟨F, env, g, ?_⟩
      have h' : PostE Z F σ Q (s3S1 ol oh oc r e1) := by
        unfold oSl3S at h
        rw [e] at h
        exact h
      rw [e]
      intro v H1 F1 g1 x1 rp1
      obtain ⟨F2, g2, x2, r2⟩ := g1.give rp1
      rw [q] at r2
      replace h' := PostE.up (x1.trans x2) h'
      unfold s3S1 at h'
      refine seqP g2 h' fun r2' env2 l H2 F3 g3 x3 e2 h2 => ?_
      unfold s3S2 at h2
      refine seqP g3 h2 fun r3 env3 u H3 F4 g4 x4 e3 h3 => ?_
      unfold s3S3 at h3
      refine seqP g4 h3 fun r4 env4 c H4 F5 g5 x5 e4 h4 => ?_
      unfold s3S4 at h4
      rw [q] at h4
      unfold s3S at h4
      split at h4
      · rename_i k1 _ _ _; cases k1
      · rename_i k1 _ _ _; cases k1
      · rename_i k1 k2 k3 k4
        cases k1
        split at h4
        case isFalse => exact h4.elim
        rename_i hc1
        obtain ⟨hc1, hsz⟩ := hc1
        subst hc1
        have z1 := e2 _ k2
        have z2 := e3 _ k3
        have z3 := e4 _ k4
        cases r2
        exact ⟨z1.symm, z2.symm, z3.symm, _, rfl, Nat.le_trans hsz (by rw [sizeLine_eq]; decide), h4 _ _ _ g5 (Ex.refl F5) (.str _)⟩
      · exact h4.elim
    all_goals
      refine .inl (left ?_)
      unfold oSl3S
      rw [e_sl3Q, e]
      show s3S1 ol oh oc r e1 = s3Q1 ol oh oc r e1
      unfold s3S1 s3Q1 s3S2 s3Q2 s3S3 s3Q3 s3S4 s3Q4
      congr 1
      funext r2 e2
      congr 1
      funext r3 e3
      congr 1
      funext r4 e4
      rw [q]
      generalize partO r2.fz = pa
      generalize partO r3.fz = pb
      generalize partO r4.fz = pc
      rcases pa with _ | (_ | _) <;> rcases pb with _ | (_ | _) <;> rcases pc with _ | (_ | _) <;> rfl
end
end FE

namespace FE
open PySem PySem.Spec PyProof.Rows L2
/-! ### what is a term, layer by layer and by parts -/
def tks : List (PySem.Str × Int) := [("none", 0), ("all", 0), ("not", 1), ("and", 2), ("or", 2), ("but", 2)]
def headB (s : List PySem.Str) : D → Bool
  | .str z => decide (z ∈ s)
  | .tup (.str w :: ds) => decide (tks.lookup w = some (ds.length : Int))
  | _ => false
def kidsB : D → List D
  | .tup (_ :: ds) => ds
  | _ => []
def partsB (s : List PySem.Str) : Nat → D → Nat
  | 0, _ => 0
  | k + 1, d => if headB s d = true then (if (kidsB d).any (fun x => partsB s k x == 0) = true then 0 else 1 + ((kidsB d).map (partsB s k)).sum) else 0
def lyB (s : List PySem.Str) : Nat → List D → Nat → Bool
  | 0, L, _ => L.isEmpty
  | n + 1, L, p => if p + L.length ≤ 100 ∧ L.all (headB s) = true then lyB s n (L.flatMap kidsB) (p + L.length) else false
section
variable {s : List PySem.Str}
theorem any_zero {k : Nat} {L : List D} : L.any (fun x => partsB s k x == 0) = true ↔ ¬ ∀ y ∈ L, partsB s k y ≠ 0 := by
  rw [List.any_eq_true]
  constructor
  · rintro ⟨x, hx, h⟩ q
    exact q x hx (by simpa using h)
  · intro h
    apply Classical.byContradiction
    intro q
    exact h fun y hy z => q ⟨y, hy, by simpa using z⟩
theorem parts_ne {k : Nat} {x : D} : partsB s (k + 1) x ≠ 0 ↔ headB s x = true ∧ ∀ y ∈ kidsB x, partsB s k y ≠ 0 := by
  rw [partsB]
  by_cases h : headB s x = true
  · rw [if_pos h]
    by_cases a : (kidsB x).any (fun x => partsB s k x == 0) = true
    · rw [if_pos a]
      constructor
      · intro q; exact absurd rfl q
      · intro q; exact absurd q.2 (any_zero.mp a)
    · rw [if_neg a]
      constructor
      · intro _
        refine ⟨h, ?_⟩
        apply Classical.byContradiction
        intro q
        exact a (any_zero.mpr q)
      · intro _; omega
  · rw [if_neg h]
    constructor
    · intro q; exact absurd rfl q
    · intro q; exact absurd q.1 h
theorem parts_val {k : Nat} {x : D} (h : partsB s (k + 1) x ≠ 0) : partsB s (k + 1) x = 1 + ((kidsB x).map (partsB s k)).sum := by
  obtain ⟨h1, h2⟩ := parts_ne.mp h
  rw [partsB, if_pos h1, if_neg (fun a => any_zero.mp a h2)]
theorem parts_sum {k : Nat} : ∀ {L : List D}, (∀ x ∈ L, partsB s (k + 1) x ≠ 0) → (L.map (partsB s (k + 1))).sum = L.length + ((L.flatMap kidsB).map (partsB s k)).sum
  | [], _ => rfl
  | x :: L, h => by
    have ih := parts_sum (L := L) fun y hy => h y (List.mem_cons_of_mem _ hy)
    have v := parts_val (h x List.mem_cons_self)
    rw [List.map_cons, List.sum_cons, ih, v, List.flatMap_cons, List.map_append, List.sum_append, List.length_cons]
    omega
theorem lay_iff : ∀ (n : Nat) (L : List D) (p : Nat), p ≤ 100 → (lyB s n L p = true ↔ (∀ x ∈ L, partsB s n x ≠ 0) ∧ p + (L.map (partsB s n)).sum ≤ 100)
  | 0, L, p, hp => by
    rw [lyB]
    cases L with
    | nil =>
      constructor
      · intro _
        refine ⟨fun x hx => absurd hx (by simp), ?_⟩
        show p + 0 ≤ 100
        omega
      · intro _; rfl
    | cons x L =>
      constructor
      · intro h; cases h
      · intro h
        exact absurd rfl (h.1 x List.mem_cons_self)
  | n + 1, L, p, hp => by
    rw [lyB]
    by_cases c : p + L.length ≤ 100 ∧ L.all (headB s) = true
    · rw [if_pos c, lay_iff n (L.flatMap kidsB) (p + L.length) c.1]
      have hd := List.all_eq_true.mp c.2
      have e : (∀ y ∈ L.flatMap kidsB, partsB s n y ≠ 0) ↔ ∀ x ∈ L, partsB s (n + 1) x ≠ 0 := by
        constructor
        · intro h x hx
          exact parts_ne.mpr ⟨hd x hx, fun y hy => h y (List.mem_flatMap.mpr ⟨x, hx, hy⟩)⟩
        · intro h y hy
          obtain ⟨x, hx, hy⟩ := List.mem_flatMap.mp hy
          exact (parts_ne.mp (h x hx)).2 y hy
      constructor
      · rintro ⟨h1, h2⟩
        have h1' := e.mp h1
        exact ⟨h1', by rw [parts_sum h1']; omega⟩
      · rintro ⟨h1, h2⟩
        rw [parts_sum h1] at h2
        exact ⟨e.mpr h1, by omega⟩
    · rw [if_neg c]
      constructor
      · intro h; cases h
      · rintro ⟨h1, h2⟩
        refine absurd ⟨?_, List.all_eq_true.mpr fun x hx => (parts_ne.mp (h1 x hx)).1⟩ c
        rw [parts_sum h1] at h2
        omega
theorem lay_one (n : Nat) (d : D) : lyB s n [d] 0 = decide (0 < partsB s n d ∧ partsB s n d ≤ 100) := by
  have h := lay_iff (s := s) n [d] 0 (by decide)
  rw [Bool.eq_iff_iff, h, decide_eq_true_eq]
  simp only [List.mem_singleton, forall_eq, List.map_cons, List.map_nil, List.sum_cons, List.sum_nil]
  omega
/-- a tuple's head -/
theorem tks_cases {w : PySem.Str} {i : Int} (h : tks.lookup w = some i) : (w = "none" ∧ i = 0) ∨ (w = "all" ∧ i = 0) ∨ (w = "not" ∧ i = 1) ∨ (IsOp w ∧ i = 2) := by
  unfold tks at h
  have st : ∀ {k : PySem.Str} {v : Int} {r : List (PySem.Str × Int)}, List.lookup w ((k, v) :: r) = some i → (w = k ∧ i = v) ∨ List.lookup w r = some i := by
    intro k v r h
    rw [List.lookup_cons] at h
    cases e : w == k with
    | true =>
      rw [e] at h
      exact .inl ⟨LawfulBEq.eq_of_beq e, (Option.some.inj h).symm⟩
    | false =>
      rw [e] at h
      exact .inr h
  rcases st h with q | h
  · exact .inl q
  rcases st h with q | h
  · exact .inr (.inl q)
  rcases st h with q | h
  · exact .inr (.inr (.inl q))
  rcases st h with q | h
  · exact .inr (.inr (.inr ⟨.inl q.1, q.2⟩))
  rcases st h with q | h
  · exact .inr (.inr (.inr ⟨.inr (.inl q.1), q.2⟩))
  rcases st h with q | h
  · exact .inr (.inr (.inr ⟨.inr (.inr q.1), q.2⟩))
  cases h
theorem tks_none : tks.lookup ("none" : PySem.Str) = some 0 := by decide +kernel
theorem tks_all : tks.lookup ("all" : PySem.Str) = some 0 := by decide +kernel
theorem tks_not : tks.lookup ("not" : PySem.Str) = some 1 := by decide +kernel
theorem tks_op {w : PySem.Str} (h : IsOp w) : tks.lookup w = some 2 := by
  rcases h with rfl | rfl | rfl <;> decide +kernel
theorem tm_of : ∀ (k : Nat) (d : D), partsB s k d ≠ 0 → ∃ t : Tm, d = t.enc ∧ t.ok s ∧ t.deep < k
  | 0, _, h => absurd rfl h
  | k + 1, d, h => by
    obtain ⟨h1, h2⟩ := parts_ne.mp h
    unfold headB at h1
    split at h1
    · rename_i z
      exact ⟨.nm z, rfl, (of_decide_eq_true h1 : z ∈ s), Nat.succ_pos _⟩
    · rename_i w ds
      have h1 := of_decide_eq_true h1
      have h2 : ∀ y ∈ ds, partsB s k y ≠ 0 := h2
      rcases tks_cases h1 with ⟨rfl, e⟩ | ⟨rfl, e⟩ | ⟨rfl, e⟩ | ⟨op, e⟩
      · have : ds = [] := List.eq_nil_of_length_eq_zero (by omega)
        subst this
        exact ⟨.non, rfl, trivial, Nat.succ_pos _⟩
      · have : ds = [] := List.eq_nil_of_length_eq_zero (by omega)
        subst this
        exact ⟨.all, rfl, trivial, Nat.succ_pos _⟩
      · have e1 : ds.length = 1 := by omega
        obtain ⟨a, rfl⟩ := List.length_eq_one_iff.mp e1
        obtain ⟨t, rfl, ok, dp⟩ := tm_of k a (h2 a List.mem_cons_self)
        exact ⟨.not t, rfl, ok, by show t.deep + 1 < k + 1; omega⟩
      · have e1 : ds.length = 2 := by omega
        match ds, e1 with
        | [a, b], _ =>
          obtain ⟨t, rfl, ok, dp⟩ := tm_of k a (h2 a List.mem_cons_self)
          obtain ⟨u, rfl, ok2, dp2⟩ := tm_of k b (h2 b (List.mem_cons_of_mem _ List.mem_cons_self))
          exact ⟨.bin w t u, rfl, ⟨op, ok, ok2⟩, by show max t.deep u.deep + 1 < k + 1; omega⟩
    · cases h1
end
/-! ### what may be asked about -/
mutual
def nd : D → Bool
  | .non => true
  | .bl _ => true
  | .int _ => true
  | .str _ => true
  | .lst ds => okD (.lst ds)
  | .dic _ _ => true
  | .tup ds => ndL ds
  | _ => false
def ndL : List D → Bool
  | [] => true
  | d :: ds => nd d && ndL ds
end
theorem ndL_mem : ∀ {ds : List D}, ndL ds = true → ∀ d ∈ ds, nd d = true
  | [], _, _, h => by cases h
  | d :: ds, p, e, h => by
    rw [ndL, Bool.and_eq_true] at p
    rcases List.mem_cons.mp h with rfl | h
    · exact p.1
    · exact ndL_mem p.2 e h
theorem nd_kids {d : D} (h : nd d = true) : ∀ y ∈ kidsB d, nd y = true := by
  unfold kidsB
  split
  · rename_i x ds
    rw [nd, ndL, Bool.and_eq_true] at h
    exact ndL_mem h.2
  · intro y hy
    cases hy
theorem inV_no {x : V} (h : ∀ y : PySem.Str, eqV (.str y) x = false) : ∀ ys : List PySem.Str, inV x ((strL ys).map D.fv) = false
  | [] => rfl
  | y :: ys => by
    have ih := inV_no h ys
    unfold inV at ih ⊢
    show (eqV (.str y) x || ((strL ys).map D.fv).any fun z => eqV z x) = false
    rw [ih, h]
    rfl
theorem strsD_strL : ∀ ys : List PySem.Str, strsD (strL ys) = some ys
  | [] => rfl
  | y :: ys => by
    show (strsD (strL ys)).map (fun x => y :: x) = some (y :: ys)
    rw [strsD_strL ys]
    rfl
theorem eqv_str_list (xs : List PyData) : ∀ ys : List PySem.Str, ((strL ys).any fun z => PyData.eqv z.pyd (.list xs)) = false
  | [] => rfl
  | y :: ys => by
    show (PyData.eqv (D.pyd (.str y)) (.list xs) || ((strL ys).any fun z => PyData.eqv z.pyd (.list xs))) = false
    rw [eqv_str_list xs ys, D.pyd, PyData.eqv]
    rfl
theorem inG_p {s : List PySem.Str} (hs : okD (.tup (strL s)) = true) {d : D} (h : nd d = true) (nt : ∀ ds, d ≠ .tup ds) : inG d (.tup (strL s)) = some (.sh (.bl (headB s d))) := by
  cases d with
  | str z =>
    have e := inF_t z s
    unfold inF at e
    unfold inG
    cases q : inD (.str z) (.tup (strL s)) with
    | none => rw [q] at e; cases e
    | some b =>
      rw [q] at e
      rw [Option.some_or]
      exact e
  | non =>
    unfold inG inD inFl
    dsimp only
    rw [flat_strs]
    show bR ((some (inV (D.non).fv ((strL s).map D.fv))).or _) = _
    rw [inV_no (fun _ => rfl)]
    rfl
  | bl b =>
    unfold inG inD inFl
    dsimp only
    rw [flat_strs]
    show bR ((some (inV (D.bl b).fv ((strL s).map D.fv))).or _) = _
    rw [inV_no (fun _ => rfl)]
    rfl
  | int i =>
    unfold inG inD inFl
    dsimp only
    rw [flat_strs]
    show bR ((some (inV (D.int i).fv ((strL s).map D.fv))).or _) = _
    rw [inV_no (fun _ => rfl)]
    rfl
  | lst ds =>
    rw [nd] at h
    have e : inD (.lst ds) (.tup (strL s)) = none := rfl
    unfold inG
    rw [e, Option.none_or]
    unfold inH
    dsimp only
    rw [if_pos (by rw [h, hs]; rfl), D.pyd, eqv_str_list]
    rfl
  | dic ks ds =>
    have e : inD (.dic ks ds) (.tup (strL s)) = none := rfl
    unfold inG
    rw [e, Option.none_or]
    unfold inH
    dsimp only
    rw [if_neg (by simp [okD, D.plain])]
    rw [strsD_strL]
    rfl
  | tup ds => exact absurd rfl (nt ds)
  | wtp ds => simp [nd] at h
  | obj c ns ds => simp [nd] at h
  | dev j x => simp [nd] at h
end FE

namespace FE
open PySem PySem.Spec PyProof.Rows L2
/-! ### not x as a value, x of any kind -/
def notUO (e : FE.Env) : Option Bool → OE
  | some b => .ok (.sh (.bl (!b))) e
  | none => .bad
def notUK (r : R) (e : FE.Env) : OE := notUO e (truU r.fz)
def oNotU (oa : FE.Env → OE) : FE.Env → OE := fun env => (oa env).bind notUK
theorem e_notU (oa : FE.Env → OE) (env : FE.Env) : oNotU oa env = (oa env).bind notUK := (rfl)
theorem e_notUK (r : R) (e : FE.Env) : notUK r e = notUO e (truU r.fz) := (rfl)
theorem e_notUO (e : FE.Env) (b : Bool) : notUO e (some b) = .ok (.sh (.bl (!b))) e := (rfl)
section
variable {X : Cx} {Z : Zd} {a : Expr} {oa : FE.Env → OE} {pos : Pos}
theorem n_notU (hK : Z.G.K = X.K) (ha : PE X a (tE Z oa)) : PE X (.UnaryOp .Not a pos) (tE Z (oNotU oa)) := by
  refine PE.imp (pe_notT ha) fun σ H Q ⟨F, env, g, h⟩ => ?_
  refine seqE g h fun r1 env1 v1 H1 F1 g1 x1 rp1 h1 => ?_
  unfold notUK at h1
  cases q : truU r1.fz with
  | none => rw [q] at h1; exact h1.elim
  | some k =>
    rw [q] at h1
    obtain ⟨q1, q2⟩ := truU_ok q
    exact ⟨k, by rw [← hK]; exact tru_rep g1.fh rp1 q1 q2, h1 _ H1 F1 g1 (Ex.refl F1) (.bl (!k))⟩
end
end FE

namespace FE
open PySem PySem.Spec PyProof.Rows L2
/-! ### equations of FE56 and FE57 -/
def augNB (i : Nat) (v : Int) (e : FE.Env) : Bool → OS
  | true => .nx (e.set i (.sh (.int v)))
  | false => .bad
def augNC (i : Nat) (f : Int → Int → Int) (x : Int) (e : FE.Env) : D → OS
  | .int y => augNB i (f x y) e (noIo e[i]?)
  | _ => .bad
def augNK (i : Nat) (f : Int → Int → Int) (x : Int) (r : R) (e : FE.Env) : OS := augNC i f x e r.fz
def augNA (i : Nat) (f : Int → Int → Int) (oa : FE.Env → OE) (env : FE.Env) : Option SV → OS
  | some (.sh (.int x)) => (oa env).bindS (augNK i f x)
  | _ => .bad
theorem e_augN (i : Nat) (f : Int → Int → Int) (oa : FE.Env → OE) (env : FE.Env) : sAugN i f oa env = augNA i f oa env env[i]? := by
  unfold sAugN augNA
  cases q : env[i]? with
  | none => rfl
  | some sv =>
    cases sv <;> try rfl
    rename_i d
    cases d <;> try rfl
    rename_i x
    show (oa env).bindS _ = (oa env).bindS _
    congr 1
    funext r e1
    unfold augNK augNC
    cases r.fz <;> try rfl
    show (if noIo e1[i]? = true then _ else _) = _
    cases noIo e1[i]? <;> rfl
theorem e_augNA (i : Nat) (f : Int → Int → Int) (oa : FE.Env → OE) (env : FE.Env) (x : Int) : augNA i f oa env (some (.sh (.int x))) = (oa env).bindS (augNK i f x) := (rfl)
theorem e_augNK (i : Nat) (f : Int → Int → Int) (x : Int) (r : R) (e : FE.Env) : augNK i f x r e = augNC i f x e r.fz := (rfl)
theorem e_augNC (i : Nat) (f : Int → Int → Int) (x y : Int) (e : FE.Env) : augNC i f x e (.int y) = augNB i (f x y) e (noIo e[i]?) := (rfl)
theorem e_augNB (i : Nat) (v : Int) (e : FE.Env) : augNB i v e true = .nx (e.set i (.sh (.int v))) := (rfl)
def lcGR (ws : List Nat) (e1 : FE.Env) (acc : List D) (e2 : FE.Env) : Bool → OE
  | true => .ok (.ow acc) (restE e1 e2 ws)
  | false => .bad
def lcGO (ws : List Nat) (e1 : FE.Env) : Option (List D × FE.Env) → OE
  | some (acc, e2) => lcGR ws e1 acc e2 (ws.all fun v => noIo e2[v]?)
  | none => .bad
def lcGB (f : D → FE.Env → Option FE.Env) (ot : FE.Env → OT) (B : List D → FE.Env → Option (List D × FE.Env)) (ws : List Nat) (ds : List D) (e1 : FE.Env) : Bool → OE
  | true => lcGO ws e1 (loopB f ot B ws ds (wipeE e1 ws) [])
  | false => .bad
def lcGK (f : D → FE.Env → Option FE.Env) (ot : FE.Env → OT) (B : List D → FE.Env → Option (List D × FE.Env)) (ws : List Nat) (ds : List D) (e1 : FE.Env) : OE := lcGB f ot B ws ds e1 (ws.all (okW e1))
theorem e_lcG (oi : FE.Env → OI) (f : D → FE.Env → Option FE.Env) (ot : FE.Env → OT) (B : List D → FE.Env → Option (List D × FE.Env)) (ws : List Nat) (env : FE.Env) : oLcG oi f ot B ws env = (oi env).bindE (lcGK f ot B ws) := by
  unfold oLcG
  congr 1
  funext ds e1
  unfold lcGK
  cases ws.all (okW e1) with
  | false => rfl
  | true =>
    rw [if_pos rfl]
    unfold lcGB lcGO
    cases loopB f ot B ws ds (wipeE e1 ws) [] with
    | none => rfl
    | some pr =>
      obtain ⟨acc, e2⟩ := pr
      dsimp only
      cases (ws.all fun v => noIo e2[v]?) <;> rfl
theorem e_lcGK (f : D → FE.Env → Option FE.Env) (ot : FE.Env → OT) (B : List D → FE.Env → Option (List D × FE.Env)) (ws : List Nat) (ds : List D) (e1 : FE.Env) : lcGK f ot B ws ds e1 = lcGB f ot B ws ds e1 (ws.all (okW e1)) := (rfl)
theorem e_lcGB (f : D → FE.Env → Option FE.Env) (ot : FE.Env → OT) (B : List D → FE.Env → Option (List D × FE.Env)) (ws : List Nat) (ds : List D) (e1 : FE.Env) : lcGB f ot B ws ds e1 true = lcGO ws e1 (loopB f ot B ws ds (wipeE e1 ws) []) := (rfl)
theorem e_lcGO (ws : List Nat) (e1 : FE.Env) (acc : List D) (e2 : FE.Env) : lcGO ws e1 (some (acc, e2)) = lcGR ws e1 acc e2 (ws.all fun v => noIo e2[v]?) := (rfl)
theorem e_lcGR (ws : List Nat) (e1 : FE.Env) (acc : List D) (e2 : FE.Env) : lcGR ws e1 acc e2 true = .ok (.ow acc) (restE e1 e2 ws) := (rfl)
/-- a loop that adds h x for each x -/
theorem loopB_of {f : D → FE.Env → Option FE.Env} {ot : FE.Env → OT} {B : List D → FE.Env → Option (List D × FE.Env)} {ws : List Nat} (env : FE.Env) (h : D → List D) : ∀ (xs acc : List D), acc.length + (xs.flatMap h).length ≤ 1000000 →
    (∀ x ∈ xs, ∀ acc : List D, acc.length + (h x).length ≤ 1000000 → ∃ e1 b e2, f x env = some e1 ∧ ot e1 = .ok b e2 ∧
      (b = true → ∃ e3, B acc e2 = some (acc ++ h x, e3) ∧ (ws.all fun v => noIo e3[v]?) = true ∧ wipeE e3 ws = env) ∧ (b = false → h x = [] ∧ (ws.all fun v => noIo e2[v]?) = true ∧ wipeE e2 ws = env)) →
    loopB f ot B ws xs env acc = some (acc ++ xs.flatMap h, env)
  | [], acc, _, _ => by
    rw [loopB, List.flatMap_nil, List.append_nil]
  | x :: xs, acc, hl, hx => by
    rw [List.flatMap_cons, List.length_append] at hl
    obtain ⟨e1, b, e2, h1, h2, h3, h4⟩ := hx x List.mem_cons_self acc (by omega)
    have ih := fun acc' hl' => loopB_of (ot := ot) (B := B) env h xs acc' hl' fun y hy => hx y (List.mem_cons_of_mem _ hy)
    rw [loopB, h1]
    dsimp only
    rw [h2]
    cases b with
    | true =>
      obtain ⟨e3, k1, k2, k3⟩ := h3 rfl
      dsimp only
      rw [k1]
      dsimp only
      rw [if_pos k2, k3, ih (acc ++ h x) (by rw [List.length_append]; omega), List.flatMap_cons, List.append_assoc]
    | false =>
      obtain ⟨k1, k2, k3⟩ := h4 rfl
      dsimp only
      rw [if_pos k2, k3, ih acc (by omega), List.flatMap_cons, k1, List.nil_append]
end FE

namespace FE
open PySem PySem.Spec PyProof.Rows L2
/-! ### repr of a list of one's own -/
def rvR (e : FE.Env) : Option R → OE
  | some r => .ok r e
  | none => .bad
def rvO (e : FE.Env) : Option (List D) → OE
  | some ds => rvR e (reprF [.lst ds])
  | none => .bad
def oReprV (i : Nat) : FE.Env → OE := fun env => rvO env (ownAt env i)
theorem e_reprV (i : Nat) (env : FE.Env) : oReprV i env = rvO env (ownAt env i) := (rfl)
theorem e_rvO (e : FE.Env) (ds : List D) : rvO e (some ds) = rvR e (reprF [.lst ds]) := (rfl)
theorem e_rvR (e : FE.Env) (r : R) : rvR e (some r) = .ok r e := (rfl)
section
variable {X : Cx} {Z : Zd} {p pos : Pos}
theorem n_reprV (i : Nat) {x : PySem.Str} {px : Pos} (hu : X.A.units + 150 < cLine) (hgu : X.A.guards = some []) (hm : X.mg "repr" = none) (hK : Z.G.K = X.K) (hN : X.N[i]? = some x := by rfl) (hv : Vis X.env.scope x := by first | exact Or.inl rfl | exact Or.inr (Or.inl rfl) | exact Or.inr (Or.inr rfl)) (hd : (x == ("__debug__" : PySem.Str)) = false := by decide)
    (hcd : (x == ("__classdict__" : PySem.Str)) = false := by decide) (hg : Gl X "repr" := by rfl) (he : starEach [.Name x px] X.env = (false, eval (.Name x px) X.env) :: starEach [] X.env := by rfl) : PE X (.Call (.Name "repr" p) [.Name x px] [] pos) (tE Z (oReprV i)) := by
  refine PE.imp (pe_callB (call_reprU hu hgu) hg hm (by decide +kernel) (pa_cons (pe_var hN hv hd hcd) pa_nil he) (he := he)) fun σ H Q ⟨F, env, g, h⟩ => ?_
  unfold oReprV at h
  cases ho : ownAt env i with
  | none => rw [ho] at h; exact h.elim
  | some ds =>
    rw [ho] at h
    obtain ⟨a, vs, e1, e2, e3⟩ := own_at g ho
    unfold rvO reprF at h
    dsimp only at h
    unfold pyS at h
    dsimp only at h
    split at h
    · rename_i p0 q0
      split at q0
      · rename_i pl
        cases q0
        split at h
        · rename_i ok
          rw [D.plain] at pl
          refine ⟨_, e1, .ref a, _, rfl, ok, .inl ?_, h _ H F g (Ex.refl F) (.str _)⟩
          rw [D.pyd]
          exact .lst (by rw [← hK]; exact e2.sq) (by rw [← hK]; exact (e3.mono g.fh).dp pl)
        · exact h.elim
      · cases q0
    · exact h.elim
end
end FE

namespace FE
open PySem PySem.Spec PyProof.Rows L2
/-! ### words, tuples of such; one place of them otherwise -/
structure Pq (p : PyData) (b n : Nat) : Prop where
  sh : p.showable = true
  ls : p.leavesShort 120 = true
  bk : p.bulk ≤ b
  dp : p.depth ≤ n
structure PqL (ps : List PyData) (b n : Nat) : Prop where
  sh : PyData.showableAll ps = true
  ls : PyData.leavesShortAll 120 ps = true
  bk : PyData.bulkAll ps ≤ b
  dp : PyData.depthAll ps ≤ n
theorem Pq.mono {p : PyData} {b n b' n' : Nat} (h : Pq p b n) (hb : b ≤ b') (hn : n ≤ n') : Pq p b' n' := ⟨h.sh, h.ls, Nat.le_trans h.bk hb, Nat.le_trans h.dp hn⟩
theorem PqL.mono {p : List PyData} {b n b' n' : Nat} (h : PqL p b n) (hb : b ≤ b') (hn : n ≤ n') : PqL p b' n' := ⟨h.sh, h.ls, Nat.le_trans h.bk hb, Nat.le_trans h.dp hn⟩
theorem PqL.nil : PqL [] 0 0 := ⟨by simp only [PyData.showableAll], by simp only [PyData.leavesShortAll], by simp only [PyData.bulkAll]; omega, by simp only [PyData.depthAll]; omega⟩
theorem PqL.cons {d : PyData} {ds : List PyData} {b n b' n' : Nat} (h : Pq d b n) (t : PqL ds b' n') : PqL (d :: ds) (b + 1 + b') (max n n') := by
  refine ⟨by simp only [PyData.showableAll, h.sh, t.sh, Bool.and_self], by simp only [PyData.leavesShortAll, h.ls, t.ls, Bool.and_self], ?_, ?_⟩
  · simp only [PyData.bulkAll]
    have := h.bk
    have := t.bk
    omega
  · simp only [PyData.depthAll]
    have := h.dp
    have := t.dp
    omega
theorem PqL.append {bs : List PyData} {b' n' : Nat} (t : PqL bs b' n') : ∀ {as : List PyData} {b n : Nat}, PqL as b n → PqL (as ++ bs) (b + b') (max n n')
  | [], b, n, h => t.mono (Nat.le_add_left _ _) (Nat.le_max_right _ _)
  | a :: as, b, n, h => by
    have h1 := h.sh
    have h2 := h.ls
    have h3 := h.bk
    have h4 := h.dp
    simp only [PyData.showableAll, PyData.leavesShortAll, PyData.bulkAll, PyData.depthAll, Bool.and_eq_true] at h1 h2 h3 h4
    have ih := PqL.append t (as := as) (b := PyData.bulkAll as) (n := PyData.depthAll as) ⟨h1.2, h2.2, Nat.le_refl _, Nat.le_refl _⟩
    have c := PqL.cons (d := a) (b := a.bulk) (n := a.depth) ⟨h1.1, h2.1, Nat.le_refl _, Nat.le_refl _⟩ ih
    exact c.mono (by omega) (by omega)
theorem PqL.tup {ps : List PyData} {b n : Nat} (h : PqL ps b n) : Pq (.tuple ps) b (n + 1) := ⟨by simp only [PyData.showable, h.sh], by simp only [PyData.leavesShort, h.ls], by simp only [PyData.bulk]; exact h.bk, by simp only [PyData.depth]; have := h.dp; omega⟩
theorem PqL.lst {ps : List PyData} {b n : Nat} (h : PqL ps b n) : Pq (.list ps) b (n + 1) := ⟨by simp only [PyData.showable, h.sh], by simp only [PyData.leavesShort, h.ls], by simp only [PyData.bulk]; exact h.bk, by simp only [PyData.depth]; have := h.dp; omega⟩
theorem Show2.pq {d : D} {b n : Nat} (h : Show2 d b n) : Pq d.pyd b n := ⟨h.sh, h.ls, h.bk, h.dp⟩
theorem okShow_of {p : PyData} {b n : Nat} (h : Pq p b n) (hb : b ≤ 100000) (hn : n ≤ 60) : okShow p = true := by
  unfold okShow
  rw [h.sh, h.ls, decide_eq_true (show p.bulk ≤ 100000 from Nat.le_trans h.bk hb), decide_eq_true (show p.depth ≤ 60 from Nat.le_trans h.dp hn), show (true && true) = true from rfl, Bool.or_true]
  rfl
/-- a thing that can be asked about and shown -/
def Th (d : D) (b n : Nat) : Prop := nd d = true ∧ ((d.plain = true ∧ Pq d.pyd b n) ∨ (tdD d = true ∧ Pq (pyT d) b n))
theorem Th.mono {d : D} {b n b' n' : Nat} (h : Th d b n) (hb : b ≤ b') (hn : n ≤ n') : Th d b' n' := ⟨h.1, h.2.imp (fun q => ⟨q.1, q.2.mono hb hn⟩) fun q => ⟨q.1, q.2.mono hb hn⟩⟩
theorem Th.shown {d : D} {b n : Nat} (h : Th d b n) (hb : b ≤ 100000) (hn : n ≤ 60) : ∃ z, reprG [d] = some (.sh (.str z)) := by
  have left : ∀ z, reprF [d] = some z → reprG [d] = some z := fun z e => by
    show (reprF [d]).or (reprT d) = _
    rw [e]
    rfl
  rcases h.2 with ⟨h1, h2⟩ | ⟨h1, h2⟩
  · exact ⟨_, left _ (repr_ok2 ⟨h1, h2.sh, h2.ls, h2.bk, h2.dp⟩ hb hn)⟩
  · have ok := okShow_of h2 hb hn
    cases d with
    | non => exact ⟨_, rfl⟩
    | bl b => exact ⟨_, left _ (repr_ok2 ⟨rfl, h2.sh, h2.ls, h2.bk, h2.dp⟩ hb hn)⟩
    | int i => exact ⟨_, left _ (repr_ok2 ⟨rfl, h2.sh, h2.ls, h2.bk, h2.dp⟩ hb hn)⟩
    | str z => exact ⟨_, left _ (repr_ok2 ⟨rfl, h2.sh, h2.ls, h2.bk, h2.dp⟩ hb hn)⟩
    | tup ds =>
      rw [tdD] at h1
      rw [pyT] at ok
      cases e : reprF [.tup ds] with
      | some z =>
        unfold reprF at e
        dsimp only at e
        split at e
        · split at e
          · cases e
            exact ⟨_, left _ (by
              unfold reprF
              dsimp only
              rename_i q1 q2
              rw [q1]
              dsimp only
              rw [if_pos q2])⟩
          · cases e
        · cases e
      | none =>
        refine ⟨PyData.shown (.tuple (pyTL ds)), ?_⟩
        show (reprF [.tup ds]).or (reprT (.tup ds)) = _
        rw [e, Option.none_or]
        unfold reprT
        dsimp only
        rw [if_pos ⟨h1, ok⟩]
    | dic ks ds =>
      rw [tdD] at h1
      rw [pyT] at ok
      refine ⟨PyData.shown (.dict ((ks.map D.pyk).zip (pydL ds))), left _ ?_⟩
      unfold reprF pyS
      dsimp only
      rw [if_pos h1]
      dsimp only
      rw [if_pos ok]
    | wtp ds => simp [tdD] at h1
    | lst ds => simp [tdD] at h1
    | obj c ns ds => simp [tdD] at h1
    | dev j x => simp [tdD] at h1
mutual
def tl : D → Bool
  | .str z => decide (1 ≤ z.cps.toList.length ∧ z.cps.toList.length ≤ 8) && z.cps.toList.all (fun c => decide (c < 128))
  | .tup ds => !ds.isEmpty && tlL ds
  | _ => false
def tlL : List D → Bool
  | [] => true
  | d :: ds => tl d && tlL ds
end
theorem tlL_mem : ∀ {ds : List D}, tlL ds = true → ∀ d ∈ ds, tl d = true
  | [], _, _, h => by cases h
  | d :: ds, p, e, h => by
    rw [tlL, Bool.and_eq_true] at p
    rcases List.mem_cons.mp h with rfl | h
    · exact p.1
    · exact tlL_mem p.2 e h
theorem tlL_of : ∀ {ds : List D}, (∀ d ∈ ds, tl d = true) → tlL ds = true
  | [], _ => rfl
  | d :: ds, h => by
    rw [tlL, h d List.mem_cons_self, tlL_of fun e he => h e (List.mem_cons_of_mem _ he)]
    rfl
structure Tf (d : D) : Prop where
  pl : d.plain = true
  td : tdD d = true
  nd : nd d = true
  eq : pyT d = d.pyd
  sh : d.pyd.showable = true
  ls : d.pyd.leavesShort 120 = true
structure TfL (ds : List D) : Prop where
  pl : plainL ds = true
  td : tdL ds = true
  nd : ndL ds = true
  eq : pyTL ds = pydL ds
  sh : PyData.showableAll (pydL ds) = true
  ls : PyData.leavesShortAll 120 (pydL ds) = true
mutual
theorem tl_f : ∀ {d : D}, tl d = true → Tf d
  | .str z, h => by
    rw [tl, Bool.and_eq_true, decide_eq_true_eq] at h
    have s := show2Str (x := z) (b := 8) (fun c hc => of_decide_eq_true (List.all_eq_true.mp h.2 c hc)) h.1.2
    exact ⟨rfl, rfl, rfl, rfl, s.sh, s.ls⟩
  | .tup ds, h => by
    rw [tl, Bool.and_eq_true] at h
    have f := tlL_f h.2
    exact ⟨by rw [D.plain]; exact f.pl, by rw [tdD]; exact f.td, by rw [nd]; exact f.nd, by rw [pyT, D.pyd, f.eq], by rw [D.pyd, PyData.showable]; exact f.sh, by rw [D.pyd, PyData.leavesShort]; exact f.ls⟩
  | .non, h => by simp [tl] at h
  | .bl b, h => by simp [tl] at h
  | .int i, h => by simp [tl] at h
  | .lst ds, h => by simp [tl] at h
  | .wtp ds, h => by simp [tl] at h
  | .dic ks ds, h => by simp [tl] at h
  | .obj c ns ds, h => by simp [tl] at h
  | .dev j x, h => by simp [tl] at h
theorem tlL_f : ∀ {ds : List D}, tlL ds = true → TfL ds
  | [], _ => ⟨by simp only [plainL], by simp only [tdL], by simp only [ndL], by simp only [pyTL, pydL], by simp only [pydL, PyData.showableAll], by simp only [pydL, PyData.leavesShortAll]⟩
  | d :: ds, h => by
    rw [tlL, Bool.and_eq_true] at h
    have f := tl_f h.1
    have g := tlL_f h.2
    exact ⟨by simp only [plainL, f.pl, g.pl, Bool.and_self], by simp only [tdL, f.td, g.td, Bool.and_self], by simp only [ndL, f.nd, g.nd, Bool.and_self], by rw [pyTL, pydL, f.eq, g.eq], by simp only [pydL, PyData.showableAll, f.sh, g.sh, Bool.and_self], by simp only [pydL, PyData.leavesShortAll, f.ls, g.ls, Bool.and_self]⟩
end
def bks (ds : List D) : Nat := PyData.bulkAll (pydL ds)
def dps (ds : List D) : Nat := PyData.depthAll (pydL ds)
theorem TfL.pq {ds : List D} (f : TfL ds) : PqL (pydL ds) (bks ds) (dps ds) := ⟨f.sh, f.ls, Nat.le_refl _, Nat.le_refl _⟩
theorem TfL.tup {ds : List D} (f : TfL ds) : Th (.tup ds) (bks ds) (dps ds + 1) := ⟨by rw [FE.nd]; exact f.nd, .inl ⟨by rw [D.plain]; exact f.pl, by rw [D.pyd]; exact f.pq.tup⟩⟩
theorem Tf.th {d : D} (f : Tf d) : Th d d.pyd.bulk d.pyd.depth := ⟨f.nd, .inl ⟨f.pl, f.sh, f.ls, Nat.le_refl _, Nat.le_refl _⟩⟩
theorem bks_sub {as bs : List D} (h : as.Sublist bs) : bks as ≤ bks bs ∧ dps as ≤ dps bs := by
  induction h with
  | slnil => exact ⟨Nat.le_refl _, Nat.le_refl _⟩
  | cons a h ih =>
    unfold bks dps at ih ⊢
    simp only [pydL, PyData.bulkAll, PyData.depthAll]
    omega
  | cons_cons a h ih =>
    unfold bks dps at ih ⊢
    simp only [pydL, PyData.bulkAll, PyData.depthAll]
    omega
theorem pydL_app : ∀ as bs : List D, pydL (as ++ bs) = pydL as ++ pydL bs
  | [], _ => by simp only [pydL, List.nil_append]
  | a :: as, bs => by rw [List.cons_append, pydL, pydL_app as bs, pydL, List.cons_append]
theorem pyTL_app : ∀ as bs : List D, pyTL (as ++ bs) = pyTL as ++ pyTL bs
  | [], _ => by simp only [pyTL, List.nil_append]
  | a :: as, bs => by rw [List.cons_append, pyTL, pyTL_app as bs, pyTL, List.cons_append]
theorem plainL_app : ∀ as bs : List D, plainL (as ++ bs) = (plainL as && plainL bs)
  | [], _ => by simp only [plainL, List.nil_append, Bool.true_and]
  | a :: as, bs => by rw [List.cons_append, plainL, plainL_app as bs, plainL, Bool.and_assoc]
theorem tdL_app : ∀ as bs : List D, tdL (as ++ bs) = (tdL as && tdL bs)
  | [], _ => by simp only [tdL, List.nil_append, Bool.true_and]
  | a :: as, bs => by rw [List.cons_append, tdL, tdL_app as bs, tdL, Bool.and_assoc]
theorem ndL_app : ∀ as bs : List D, ndL (as ++ bs) = (ndL as && ndL bs)
  | [], _ => by simp only [ndL, List.nil_append, Bool.true_and]
  | a :: as, bs => by rw [List.cons_append, ndL, ndL_app as bs, ndL, Bool.and_assoc]
theorem bks_app (as bs : List D) : bks (as ++ bs) = bks as + bks bs := by
  induction as with
  | nil =>
    unfold bks
    simp only [List.nil_append, pydL, PyData.bulkAll]
    omega
  | cons a as ih =>
    unfold bks at ih ⊢
    simp only [List.cons_append, pydL, PyData.bulkAll]
    omega
theorem Th.repl {l1 l2 : List D} {x : D} {b n : Nat} (h1 : tlL l1 = true) (h2 : tlL l2 = true) (h : Th x b n) : Th (.tup (l1 ++ x :: l2)) (bks l1 + (b + 1 + bks l2)) (max (dps l1) (max n (dps l2)) + 1) := by
  have f1 := tlL_f h1
  have f2 := tlL_f h2
  refine ⟨?_, ?_⟩
  · rw [nd, ndL_app, ndL, f1.nd, f2.nd, h.1]
    rfl
  · rcases h.2 with ⟨a1, a2⟩ | ⟨a1, a2⟩
    · refine .inl ⟨?_, ?_⟩
      · rw [D.plain, plainL_app, plainL, f1.pl, f2.pl, a1]
        rfl
      · rw [D.pyd, pydL_app, pydL]
        exact (PqL.append (PqL.cons a2 f2.pq) f1.pq).tup
    · refine .inr ⟨?_, ?_⟩
      · rw [tdD, tdL_app, tdL, f1.td, f2.td, a1]
        rfl
      · rw [pyT, pyTL_app, pyTL, f1.eq, f2.eq]
        exact (PqL.append (PqL.cons a2 f2.pq) f1.pq).tup
end FE

namespace FE
open PySem PySem.Spec PyProof.Rows L2
/-! ### {'x': v}, v a name -/
def dvO (x : PySem.Str) (env : FE.Env) : Option SV → OE
  | some (.sh d) => .ok (.sh (.dic [.inr x] [d])) env
  | _ => .bad
def oDict1V (x : PySem.Str) (i : Nat) : FE.Env → OE := fun env => dvO x env env[i]?
theorem e_dict1V (x : PySem.Str) (i : Nat) (env : FE.Env) : oDict1V x i env = dvO x env env[i]? := (rfl)
theorem e_dvO (x : PySem.Str) (env : FE.Env) (d : D) : dvO x env (some (.sh d)) = .ok (.sh (.dic [.inr x] [d])) env := (rfl)
section
variable {X : Cx} {Z : Zd} {pos : Pos}
theorem n_dict1V (i : Nat) {k : Expr} {x y : PySem.Str} {p : Pos} (hk : PE X k (tC (.str x))) (hN : X.N[i]? = some y := by rfl) (hv : Vis X.env.scope y := by first | exact Or.inl rfl | exact Or.inr (Or.inl rfl) | exact Or.inr (Or.inr rfl)) (hd : (y == ("__debug__" : PySem.Str)) = false := by decide)
    (hcd : (y == ("__classdict__" : PySem.Str)) = false := by decide) : PE X (.Dict [some k] [.Name y p] pos) (tE Z (oDict1V x i)) :=
  PE.imp (pe_disp (pps_cons hk (pe_var hN hv hd hcd) pps_nil) rfl rfl (by simp) (by simp)) fun σ H Q ⟨F, env, g, h⟩ p hp => by
    unfold oDict1V at h
    cases q : env[i]? with
    | none => rw [q] at h; exact h.elim
    | some s =>
      rw [q] at h
      cases s <;> try exact h.elim
      rename_i d
      obtain ⟨u, hu, ru⟩ := g.sh i d q
      refine ⟨u, hu, ?_⟩
      refine ⟨upd_same, [(.inr x, u)], rfl, by simp, ?_⟩
      have e : upd (upd H p (.dK [])) p (.dK (mergeK [] [(.inr x, u)])) = upd H p (.dK [(.inr x, u)]) := by
        funext a
        by_cases q : a = p
        · subst q
          rw [upd_same, upd_same]
          rfl
        · rw [upd_ne q, upd_ne q, upd_ne q]
      rw [e]
      exact h (.ref p) _ _ (g.layF hp) (Ex.new (g.fresh hp)) (.dic (ks := [.inr x]) (vs := [u]) upd_same rfl (.cons (ru.mono (Ex.new (g.fresh hp))) .nil))
end
end FE

namespace FE
open PySem PySem.Spec PyProof.Rows L2
theorem d_pow_20 : powF (.int 10) (.int 20) = some (.sh (.int 100000000000000000000)) := by
  unfold powF
  dsimp only
  rw [if_pos (by decide +kernel)]
  rfl
theorem d_pow_9 : powF (.int 10) (.int 9) = some (.sh (.int 1000000000)) := by
  unfold powF
  dsimp only
  rw [if_pos (by decide +kernel)]
  rfl
theorem d_pow_24 : powF (.int 10) (.int 24) = some (.sh (.int 1000000000000000000000000)) := by
  unfold powF
  dsimp only
  rw [if_pos (by decide +kernel)]
  rfl
/-- one place of a list exchanged, as the laws write it -/
theorem cut_set {α : Type} (xs : List α) (k : Nat) (x : α) (h : k < xs.length) : cutL xs none (some (k : Int)) ++ [x] ++ cutL xs (some ((k : Int) + 1)) none = xs.set k x := by
  rw [cut_lo, show ((k : Int) + 1) = ((k + 1 : Nat) : Int) by omega, cut_hi, List.set_eq_take_append_cons_drop, if_pos h]
  simp
theorem cut_len {α : Type} (xs : List α) (lo hi : Option Int) : (cutL xs lo hi).length ≤ xs.length := by
  unfold cutL
  exact ((List.take_sublist _ _).trans (List.drop_sublist _ _)).length_le
theorem ints_set (ns : List Int) (k : Nat) (x : Int) : (intsL ns).set k (.int x) = intsL (ns.set k x) := by
  unfold intsL
  rw [List.map_set]
end FE

namespace FE
open PySem PySem.Spec PyProof.Rows L2
/-! ### a slice of a name's list, which may be one's own -/
def slS (e : FE.Env) (l u : Option Int) : Option SV → OE
  | some (.sh d) => okO (sliceF d l u) e
  | _ => .bad
def slE (e : FE.Env) (l u : Option Int) (s : Option SV) : Option (List D) → OE
  | some ds => .ok (.ow (cutL ds l u)) e
  | none => slS e l u s
def slL (e : FE.Env) (s : Option SV) (o : Option (List D)) : Option (Option Int) → Option (Option Int) → OE
  | some l, some u => slE e l u s o
  | _, _ => .bad
def slVK2 (i : Nat) (r2 r3 : R) (e : FE.Env) : OE := slL e e[i]? (ownAt e i) (partO r2.fz) (partO r3.fz)
def slVK1 (i : Nat) (oh : FE.Env → OE) (r2 : R) (e : FE.Env) : OE := (oh e).bind (slVK2 i r2)
def slVH (i : Nat) (ol oh : FE.Env → OE) (env : FE.Env) : Bool → OE
  | true => (ol env).bind (slVK1 i oh)
  | false => .bad
def oSlV (i : Nat) (ol oh : FE.Env → OE) : FE.Env → OE := fun env => slVH i ol oh env (here env[i]?)
theorem e_slV (i : Nat) (ol oh : FE.Env → OE) (env : FE.Env) : oSlV i ol oh env = slVH i ol oh env (here env[i]?) := (rfl)
theorem e_slVH (i : Nat) (ol oh : FE.Env → OE) (env : FE.Env) : slVH i ol oh env true = (ol env).bind (slVK1 i oh) := (rfl)
theorem e_slVK1 (i : Nat) (oh : FE.Env → OE) (r2 : R) (e : FE.Env) : slVK1 i oh r2 e = (oh e).bind (slVK2 i r2) := (rfl)
theorem e_slVK2 (i : Nat) (r2 r3 : R) (e : FE.Env) : slVK2 i r2 r3 e = slL e e[i]? (ownAt e i) (partO r2.fz) (partO r3.fz) := (rfl)
theorem e_slL (e : FE.Env) (s : Option SV) (o : Option (List D)) (l u : Option Int) : slL e s o (some l) (some u) = slE e l u s o := (rfl)
theorem e_slE1 (e : FE.Env) (l u : Option Int) (s : Option SV) (ds : List D) : slE e l u s (some ds) = .ok (.ow (cutL ds l u)) e := (rfl)
theorem e_slE0 (e : FE.Env) (l u : Option Int) (s : Option SV) : slE e l u s none = slS e l u s := (rfl)
theorem e_slS (e : FE.Env) (l u : Option Int) (d : D) : slS e l u (some (.sh d)) = okO (sliceF d l u) e := (rfl)
section
variable {X : Cx} {Z : Zd} {p pos : Pos}
theorem n_slV (i : Nat) {x : PySem.Str} {px : Pos} {lo hi : Option Expr} {ol oh : FE.Env → OE} {p2 pos : Pos} (hl : PO X lo (tP Z ol)) (hh : PO X hi (tP Z oh)) (hK : Z.G.K = X.K) (hN : X.N[i]? = some x := by rfl) (hv : Vis X.env.scope x := by first | exact Or.inl rfl | exact Or.inr (Or.inl rfl) | exact Or.inr (Or.inr rfl)) (hd : (x == ("__debug__" : PySem.Str)) = false := by decide)
    (hcd : (x == ("__classdict__" : PySem.Str)) = false := by decide) : PE X (.Subscript (.Name x px) (.Slice lo hi none p2) pos) (tE Z (oSlV i ol oh)) := by
  refine PE.imp (pe_slice (sl_U (X := X)) (pe_var hN hv hd hcd) hl hh) fun σ H Q ⟨F, env, g, h⟩ => ?_
  unfold oSlV at h
  cases hh : FE.here env[i]? with
  | false => rw [hh] at h; exact h.elim
  | true =>
    rw [hh] at h
    have vi : ∃ v, σ[i]? = some (some v) := g.here hh
    obtain ⟨v, hv⟩ := vi
    refine ⟨v, hv, ?_⟩
    refine seqP g h fun r2 env2 l H2 F2 g2 x2 e2 h2 => ?_
    refine seqP g2 h2 fun r3 env3 u H3 F3 g3 x3 e3 h3 => ?_
    unfold slVK2 at h3
    cases q2 : partO r2.fz with
    | none => rw [q2] at h3; exact h3.elim
    | some l' =>
      cases q3 : partO r3.fz with
      | none => rw [q2, q3] at h3; exact h3.elim
      | some u' =>
        rw [q2, q3] at h3
        obtain rfl := e2 _ q2
        obtain rfl := e3 _ q3
        rw [e_slL] at h3
        cases ho : ownAt env3 i with
        | some ds =>
          rw [ho] at h3
          obtain ⟨a, vs, e1, k1, k2⟩ := own_at g3 ho
          rw [hv] at e1
          cases e1
          refine .inl ⟨_, _, rfl, by rw [← hK]; exact k1.sq, fun p hp => ?_⟩
          exact h3 _ _ _ (g3.lay hp) (Ex.refl F3) (g3.mine hp (k2.cut l' u'))
        | none =>
          rw [ho] at h3
          cases e : env3[i]? with
          | none => rw [e] at h3; exact h3.elim
          | some s =>
            rw [e] at h3
            cases s with
            | no => exact h3.elim
            | ow ds => exact h3.elim
            | io ds => exact h3.elim
            | sh d0 =>
              rw [e_slE0, e_slS] at h3
              cases hz : sliceF d0 l' u' with
              | none => rw [hz] at h3; exact h3.elim
              | some z =>
                rw [hz] at h3
                obtain ⟨v2, e1, k2⟩ := g3.sh i d0 e
                rw [hv] at e1
                cases e1
                have := s_slice (G := Z.G) Z F3 σ H3 env3 v d0 l' u' z Q rfl g3 k2 hz h3
                rw [hK] at this
                exact this
end
end FE

namespace FE
open PySem PySem.Spec PyProof.Rows L2
/-! ### == of data that is itself -/
structure EqOk (d : D) (n : Nat) : Prop where
  pl : d.plain = true
  cl : PyData.canLay0 d.pyd = true
  pp : PyData.plain d.pyd = true
  dp : PyData.depth d.pyd ≤ n
theorem EqOk.mono {d : D} {n m : Nat} (h : EqOk d n) (l : n ≤ m) : EqOk d m := ⟨h.pl, h.cl, h.pp, Nat.le_trans h.dp l⟩
theorem EqOk.int (i : Int) : EqOk (.int i) 0 := ⟨rfl, rfl, rfl, Nat.le_refl _⟩
theorem EqOk.str {x : PySem.Str} (h : PyData.strOk x = true) : EqOk (.str x) 0 := ⟨rfl, h, rfl, Nat.le_refl _⟩
theorem eqok_all {n : Nat} : ∀ {ds : List D}, (∀ d ∈ ds, EqOk d n) → plainL ds = true ∧ PyData.canLayAll0 (pydL ds) = true ∧ PyData.plainAll (pydL ds) = true ∧ PyData.depthAll (pydL ds) ≤ n
  | [], _ => ⟨by simp only [plainL], by simp only [pydL, PyData.canLayAll0], by simp only [pydL, PyData.plainAll], by simp only [pydL, PyData.depthAll]; omega⟩
  | d :: ds, h => by
    obtain ⟨h1, h2, h3, h4⟩ := eqok_all (ds := ds) fun e he => h e (List.mem_cons_of_mem _ he)
    have k := h d List.mem_cons_self
    refine ⟨by simp only [plainL, k.pl, h1, Bool.and_self], by simp only [pydL, PyData.canLayAll0, k.cl, h2, Bool.and_self], by simp only [pydL, PyData.plainAll, k.pp, h3, Bool.and_self], ?_⟩
    simp only [pydL, PyData.depthAll]
    have := k.dp
    omega
theorem EqOk.lst {n : Nat} {ds : List D} (h : ∀ d ∈ ds, EqOk d n) : EqOk (.lst ds) (n + 1) := by
  obtain ⟨h1, h2, h3, h4⟩ := eqok_all h
  refine ⟨by simp only [D.plain, h1], by simp only [D.pyd, PyData.canLay0, h2], by simp only [D.pyd, PyData.plain, h3], ?_⟩
  simp only [D.pyd, PyData.depth]
  omega
theorem EqOk.tup {n : Nat} {ds : List D} (h : ∀ d ∈ ds, EqOk d n) : EqOk (.tup ds) (n + 1) := by
  obtain ⟨h1, h2, h3, h4⟩ := eqok_all h
  refine ⟨by simp only [D.plain, h1], by simp only [D.pyd, PyData.canLay0, h2], by simp only [D.pyd, PyData.plain, h3], ?_⟩
  simp only [D.pyd, PyData.depth]
  omega
theorem EqOk.ok {d : D} {n : Nat} (h : EqOk d n) (hn : n ≤ 64) : okD d = true := by
  unfold okD SeqAt.shaped
  rw [h.pl, h.cl, decide_eq_true (Nat.le_trans h.dp hn)]
  rfl
theorem eqok_ints {ns : List Int} : ∀ d ∈ intsL ns, EqOk d 0 := fun d hd => by
  obtain ⟨i, _, rfl⟩ := List.mem_map.mp hd
  exact .int i
theorem eqD_of {d e : D} {n : Nat} (h1 : EqOk d n) (h2 : EqOk e n) (hn : n ≤ 64) (hd : (∃ ds, d = .lst ds) ∨ ∃ ds, d = .tup ds) : eqD d e = some (PyData.eqv d.pyd e.pyd) := by
  have o1 := h1.ok hn
  have o2 := h2.ok hn
  rcases hd with ⟨ds, rfl⟩ | ⟨ds, rfl⟩
  · show (if okD (.lst ds) && okD e then some (PyData.eqv (D.lst ds).pyd e.pyd) else none) = _
    rw [o1, o2]
    rfl
  · show (if okD (.tup ds) && okD e then some (PyData.eqv (D.tup ds).pyd e.pyd) else none) = _
    rw [o1, o2]
    rfl
theorem eq_self' {d : D} {n : Nat} (h : EqOk d n) (hn : n ≤ 64) (hd : (∃ ds, d = .lst ds) ∨ ∃ ds, d = .tup ds) : eqF d d = some (.sh (.bl true)) := by
  unfold eqF bR
  rw [eqD_of h h hn hd, PySem.SeqAt.eqv_refl_plain _ h.pp]
  rfl
theorem ne_self' {d : D} {n : Nat} (h : EqOk d n) (hn : n ≤ 64) (hd : (∃ ds, d = .lst ds) ∨ ∃ ds, d = .tup ds) : neF d d = some (.sh (.bl false)) := by
  unfold neF bR
  rw [eqD_of h h hn hd, PySem.SeqAt.eqv_refl_plain _ h.pp]
  rfl
theorem eqv_ints : ∀ xs ys : List Int, PyData.eqvAll (pydL (intsL xs)) (pydL (intsL ys)) = decide (xs = ys)
  | [], [] => by simp [intsL, pydL, PyData.eqvAll]
  | [], _ :: _ => by simp [intsL, pydL, PyData.eqvAll]
  | _ :: _, [] => by simp [intsL, pydL, PyData.eqvAll]
  | x :: xs, y :: ys => by
    have ih := eqv_ints xs ys
    unfold intsL at ih ⊢
    rw [List.map_cons, List.map_cons, pydL, pydL, PyData.eqvAll, ih]
    by_cases c : x = y
    · subst c
      simp [D.pyd, PyData.eqv]
    · simp [D.pyd, PyData.eqv, c]
theorem eq_tints (xs ys : List Int) : eqF (.tup (intsL xs)) (.tup (intsL ys)) = some (.sh (.bl (decide (xs = ys)))) := by
  unfold eqF bR
  rw [eqD_of (.tup eqok_ints) (.tup eqok_ints) (by decide) (.inr ⟨_, rfl⟩)]
  simp only [D.pyd, PyData.eqv, eqv_ints]
  rfl
theorem eq_lints (xs ys : List Int) : eqF (.lst (intsL xs)) (.lst (intsL ys)) = some (.sh (.bl (decide (xs = ys)))) := by
  unfold eqF bR
  rw [eqD_of (.lst eqok_ints) (.lst eqok_ints) (by decide) (.inl ⟨_, rfl⟩)]
  simp only [D.pyd, PyData.eqv, eqv_ints]
  rfl
theorem ne_lints (xs ys : List Int) : neF (.lst (intsL xs)) (.lst (intsL ys)) = some (.sh (.bl (!decide (xs = ys)))) := by
  unfold neF bR
  rw [eqD_of (.lst eqok_ints) (.lst eqok_ints) (by decide) (.inl ⟨_, rfl⟩)]
  simp only [D.pyd, PyData.eqv, eqv_ints]
  rfl
theorem ne_tints (xs ys : List Int) : neF (.tup (intsL xs)) (.tup (intsL ys)) = some (.sh (.bl (!decide (xs = ys)))) := by
  unfold neF bR
  rw [eqD_of (.tup eqok_ints) (.tup eqok_ints) (by decide) (.inr ⟨_, rfl⟩)]
  simp only [D.pyd, PyData.eqv, eqv_ints]
  rfl
end FE

namespace FE
open PySem PySem.Spec PyProof.Rows L2
/-! ### xs.insert(i, y), xs a list of one's own -/
def insO (i : Nat) (e : FE.Env) (k : Int) (x : D) : Option (List D) → OS
  | some ds => if 0 ≤ k ∧ k < 1000000 ∧ ds.length < 1000000 then nxO (setOwn e i (ds.take k.toNat ++ [x] ++ ds.drop k.toNat)) else .bad
  | none => .bad
def insD (i : Nat) (e : FE.Env) (x : D) (o : Option (List D)) : D → OS
  | .int k => insO i e k x o
  | _ => .bad
def insK2 (i : Nat) (r1 r2 : R) (e : FE.Env) : OS := insD i e r2.fz (e[i]?.bind Own) r1.fz
def insK1 (i : Nat) (ob : FE.Env → OE) (r1 : R) (e : FE.Env) : OS := (ob e).bindS (insK2 i r1)
def insB (i : Nat) (oa ob : FE.Env → OE) (env : FE.Env) : Bool → OS
  | true => (oa env).bindS (insK1 i ob)
  | false => .bad
def sIns (i : Nat) (oa ob : FE.Env → OE) : FE.Env → OS := fun env => insB i oa ob env (env[i]?.bind Own).isSome
theorem e_ins (i : Nat) (oa ob : FE.Env → OE) (env : FE.Env) : sIns i oa ob env = insB i oa ob env (env[i]?.bind Own).isSome := (rfl)
theorem e_insB (i : Nat) (oa ob : FE.Env → OE) (env : FE.Env) : insB i oa ob env true = (oa env).bindS (insK1 i ob) := (rfl)
theorem e_insK1 (i : Nat) (ob : FE.Env → OE) (r1 : R) (e : FE.Env) : insK1 i ob r1 e = (ob e).bindS (insK2 i r1) := (rfl)
theorem e_insK2 (i : Nat) (r1 r2 : R) (e : FE.Env) : insK2 i r1 r2 e = insD i e r2.fz (e[i]?.bind Own) r1.fz := (rfl)
theorem e_insD (i : Nat) (e : FE.Env) (x : D) (o : Option (List D)) (k : Int) : insD i e x o (.int k) = insO i e k x o := (rfl)
theorem e_insO (i : Nat) (e : FE.Env) (k : Int) (x : D) (ds : List D) : insO i e k x (some ds) = if 0 ≤ k ∧ k < 1000000 ∧ ds.length < 1000000 then nxO (setOwn e i (ds.take k.toNat ++ [x] ++ ds.drop k.toNat)) else .bad := (rfl)
section
variable {X : Cx} {Z : Zd} {a b : Expr} {oa ob : FE.Env → OE}
theorem n_ins (i : Nat) {x : PySem.Str} {p apos cpos pos : Pos} (ha : PE X a (tE Z oa)) (hb : PE X b (tE Z ob)) (hN : X.N[i]? = some x := by rfl) (hv : Vis X.env.scope x := by first | exact Or.inl rfl | exact Or.inr (Or.inl rfl) | exact Or.inr (Or.inr rfl)) (hd : (x == ("__debug__" : PySem.Str)) = false := by decide)
    (hcd : (x == ("__classdict__" : PySem.Str)) = false := by decide) (hline : (apos.endLine == cpos.line) = true := by rfl) (hs : starEach [a, b] X.env = (false, eval a X.env) :: starEach [b] X.env := by rfl) (hs2 : starEach [b] X.env = (false, eval b X.env) :: starEach [] X.env := by rfl)
    (hfew : ((backTo cpos (starEach [a, b] X.env)).all (fun x => !x.1) && (backToKw cpos (keywordEach [] X.env)).all (fun x => x.1.isSome)
      && decide ([a, b].length + ([] : List Keyword).length + (if ([] : List Keyword).isEmpty then 0 else 1) < 30)) = true := by rfl)
    (hplain : (backTo cpos (starEach [b] X.env)).any (·.1) = false := by rfl) :
    PS X (.Expr (.Call (.Attribute (.Name x p) "insert" apos) [a, b] [] cpos) pos) (tS Z (sIns i oa ob)) := by
  refine PS.imp (ps_expr (pe_bm PySem.F.plainAttrs_list PySem.F.slot_list_insert PySem.F.type_list_insert mt_insert (pe_var hN hv hd hcd) (pa_cons ha (pa_cons hb pa_nil hs2) hs) (hfew := hfew) (hline := hline) (hs := hs) (hplain := hplain))) fun Dn σ H ⟨F, env, g, h⟩ => ?_
  unfold sIns at h
  cases hh : (env[i]?.bind Own).isSome with
  | false => rw [hh] at h; exact h.elim
  | true =>
    rw [hh] at h
    obtain ⟨ds0, hs0⟩ := Option.isSome_iff_exists.mp hh
    obtain ⟨s0, k1, k2⟩ := own_get hs0
    obtain ⟨a0, vs0, hu, k3, _⟩ := g.ow i s0 ds0 k1 k2
    refine ⟨.ref a0, hu, .inl ⟨rfl, _, .inl (.inl k3)⟩, ?_⟩
    have h' : PostS Z F Dn ((oa env).bindS (insK1 i ob)) := h
    refine seqES g h' fun r1 env1 v1 H1 F1 g1 x1 rp1 h1 => ?_
    obtain ⟨F2, g2, x2, rp2⟩ := g1.give rp1
    replace h1 := PostS.up x2 h1
    unfold insK1 at h1
    refine seqES g2 h1 fun r3 env3 v3 H3 F3 g3 x3 rp3 h3 => ?_
    obtain ⟨F4, g4, x4, rp4⟩ := g3.give rp3
    replace h3 := PostS.up x4 h3
    unfold insK2 at h3
    generalize r1.fz = d1 at h3 rp2
    cases d1 <;> first | exact h3.elim | skip
    rename_i k
    obtain rfl := int_of rp2
    rw [e_insD] at h3
    cases ho : env3[i]?.bind Own with
    | none => rw [ho] at h3; exact h3.elim
    | some ds =>
      rw [ho, e_insO] at h3
      split at h3
      case isFalse => exact h3.elim
      rename_i hc
      cases he : setOwn env3 i (ds.take k.toNat ++ [r3.fz] ++ ds.drop k.toNat) with
      | none => rw [he] at h3; exact h3.elim
      | some env5 =>
        rw [he] at h3
        obtain ⟨s, e1, e2⟩ := own_get ho
        obtain ⟨a2, vs, q1, q2, q3, q4, q5⟩ := g4.ow i s ds e1 e2
        rw [hu] at q1
        cases q1
        refine ⟨a0, vs, k, v3, rfl, rfl, q2, Nat.lt_of_lt_of_le (by rw [q4.length]; exact hc.2.2) big_line, hc.1, by omega, ?_⟩
        exact h3 σ _ F4 (g4.wr e1 e2 hu q2 (((q4.take k.toNat).append (.single rp4)).append (q4.drop k.toNat)) he) (Ex.refl F4)
end
/-! ### xs.index(k), xs a name's list of whole numbers -/
def lixT (e : FE.Env) (k : Int) : Option (List Int) → OE
  | some ns => if k ∈ ns then .ok (.sh (.int (ns.idxOf k : Nat))) e else .bad
  | none => .bad
def lixS (e : FE.Env) : D → Option (List D) → OE
  | .int k, some ds => lixT e k (intsD ds)
  | _, _ => .bad
def lixK (i : Nat) (r : R) (e : FE.Env) : OE := lixS e r.fz (ownAt e i)
def lixB (i : Nat) (oa : FE.Env → OE) (env : FE.Env) : Bool → OE
  | true => (oa env).bind (lixK i)
  | false => .bad
def oLix (i : Nat) (oa : FE.Env → OE) : FE.Env → OE := fun env => lixB i oa env (ownAt env i).isSome
theorem e_lix (i : Nat) (oa : FE.Env → OE) (env : FE.Env) : oLix i oa env = lixB i oa env (ownAt env i).isSome := (rfl)
theorem e_lixB (i : Nat) (oa : FE.Env → OE) (env : FE.Env) : lixB i oa env true = (oa env).bind (lixK i) := (rfl)
theorem e_lixK (i : Nat) (r : R) (e : FE.Env) : lixK i r e = lixS e r.fz (ownAt e i) := (rfl)
theorem e_lixS (e : FE.Env) (k : Int) (ds : List D) : lixS e (.int k) (some ds) = lixT e k (intsD ds) := (rfl)
theorem e_lixT (e : FE.Env) (k : Int) (ns : List Int) : lixT e k (some ns) = if k ∈ ns then .ok (.sh (.int (ns.idxOf k : Nat))) e else .bad := (rfl)
theorem intsD_some : ∀ {ds : List D} {ns : List Int}, intsD ds = some ns → ds = intsL ns
  | [], ns, h => by
    unfold intsD at h
    cases h
    rfl
  | d :: ds, ns, h => by
    unfold intsD at h
    cases d <;> try cases h
    rename_i i
    dsimp only at h
    cases q : intsD ds with
    | none => rw [q] at h; cases h
    | some ms =>
      rw [q] at h
      cases h
      rw [intsD_some q]
      rfl
theorem repL_ivs {G : Gd} {F : Hp} : ∀ {vs : List V} {ns : List Int}, RepL G F vs (intsL ns) → vs = ns.map V.int
  | [], [], _ => rfl
  | _ :: _, [], h => by cases h
  | [], _ :: _, h => by cases h
  | v :: vs, n :: ns, h => by
    cases h with
    | cons h1 h2 =>
      rw [int_of h1, repL_ivs h2]
      rfl
theorem all_flatV (ns : List Int) : (ns.map V.int).all flatV = true := by
  induction ns with
  | nil => rfl
  | cons n ns ih => exact ih
section
variable {X : Cx} {Z : Zd} {a : Expr} {oa : FE.Env → OE}
theorem n_lix (i : Nat) {x : PySem.Str} {p apos cpos : Pos} (hK : Z.G.K = X.K) (ha : PE X a (tE Z oa)) (hN : X.N[i]? = some x := by rfl) (hv : Vis X.env.scope x := by first | exact Or.inl rfl | exact Or.inr (Or.inl rfl) | exact Or.inr (Or.inr rfl)) (hd : (x == ("__debug__" : PySem.Str)) = false := by decide)
    (hcd : (x == ("__classdict__" : PySem.Str)) = false := by decide) (hline : (apos.endLine == cpos.line) = true := by rfl) (hs : starEach [a] X.env = (false, eval a X.env) :: starEach [] X.env := by rfl)
    (hfew : ((backTo cpos (starEach [a] X.env)).all (fun x => !x.1) && (backToKw cpos (keywordEach [] X.env)).all (fun x => x.1.isSome)
      && decide ([a].length + ([] : List Keyword).length + (if ([] : List Keyword).isEmpty then 0 else 1) < 30)) = true := by rfl) :
    PE X (.Call (.Attribute (.Name x p) "index" apos) [a] [] cpos) (tE Z (oLix i oa)) := by
  refine PE.imp (pe_bm PySem.F.plainAttrs_list PySem.F.slot_list_index PySem.F.type_list_index mt_index (pe_var hN hv hd hcd) (pa_cons ha pa_nil hs) (hfew := hfew) (hline := hline) (hs := hs)) fun σ H Q ⟨F, env, g, h⟩ => ?_
  unfold oLix at h
  cases hh : (ownAt env i).isSome with
  | false => rw [hh] at h; exact h.elim
  | true =>
    rw [hh] at h
    obtain ⟨ds0, hs0⟩ := Option.isSome_iff_exists.mp hh
    obtain ⟨a0, vs0, hu, k3, _⟩ := own_at g hs0
    refine ⟨.ref a0, hu, .inl ⟨rfl, _, by rw [← hK]; exact k3.sq⟩, ?_⟩
    have h' : PostE Z F σ Q ((oa env).bind (lixK i)) := h
    refine seqE g h' fun r1 env1 v1 H1 F1 g1 x1 rp1 h1 => ?_
    unfold lixK at h1
    generalize r1.fz = d1 at h1 rp1
    cases d1 <;> first | exact h1.elim | skip
    rename_i k
    obtain rfl := int_of rp1
    cases ho : ownAt env1 i with
    | none => rw [ho] at h1; exact h1.elim
    | some ds =>
      rw [ho, e_lixS] at h1
      cases hi : intsD ds with
      | none => rw [hi] at h1; exact h1.elim
      | some ns =>
        rw [hi, e_lixT] at h1
        split at h1
        case isFalse => exact h1.elim
        rename_i hk
        obtain ⟨a1, vs, q1, q2, q3⟩ := own_at g1 ho
        rw [hu] at q1
        cases q1
        obtain rfl := intsD_some hi
        obtain rfl := repL_ivs q3
        have hj : ns.idxOf k < ns.length := List.idxOf_lt_length_iff.mpr hk
        refine ⟨a0, ns.map V.int, .int k, ns.idxOf k, .int k, rfl, rfl, by rw [← hK]; exact q2.sq, rfl, all_flatV ns, ?_, by simp [eqV], ?_, ?_⟩
        · rw [List.getElem?_map, List.getElem?_eq_getElem hj, List.getElem_idxOf hj]
          rfl
        · intro m z' hm hz
          rw [List.getElem?_map] at hz
          cases hz2 : ns[m]? with
          | none => rw [hz2] at hz; cases hz
          | some y =>
            rw [hz2] at hz
            cases hz
            have hne : y ≠ k := by
              rintro rfl
              obtain ⟨hl, hy⟩ := List.getElem?_eq_some_iff.mp hz2
              have := List.not_of_lt_findIdx (p := (· == y)) (xs := ns) (i := m) (by simpa [List.idxOf] using hm)
              simp [hy] at this
            simp [eqV, hne]
        · exact h1 _ H1 F1 g1 (Ex.refl F1) (.int _)
end
end FE

namespace FE
open PySem PySem.Spec PyProof.Rows L2
/-! ### a list of one's own lent to an expression that keeps nothing of it -/
def flatO : R → Bool
  | .sh (.tup ds) => ds.all flatD
  | .sh d => flatD d
  | .ow ds => ds.all flatD
def flS : SV → Bool
  | .ow ds => ds.all flatD
  | .io ds => ds.all flatD
  | _ => true
def ownFl : FE.Env → Bool
  | [] => true
  | s :: e => flS s && ownFl e
open Classical in
noncomputable def lndK (env1 env : FE.Env) : OE → OE
  | .ok r e => if e = env1 ∧ flatO r = true ∧ ownFl env1 = true then .ok r env else .bad
  | _ => .bad
noncomputable def lndS (i : Nat) (oa : FE.Env → OE) (env : FE.Env) : Option SV → OE
  | some (.ow ds) => lndK (env.set i (.sh (.lst ds))) env (oa (env.set i (.sh (.lst ds))))
  | some (.sh _) => oa env
  | _ => .bad
noncomputable def oLnd (i : Nat) (oa : FE.Env → OE) : FE.Env → OE := fun env => lndS i oa env env[i]?
theorem e_lnd (i : Nat) (oa : FE.Env → OE) (env : FE.Env) : oLnd i oa env = lndS i oa env env[i]? := (rfl)
theorem e_lndSo (i : Nat) (oa : FE.Env → OE) (env : FE.Env) (ds : List D) : lndS i oa env (some (.ow ds)) = lndK (env.set i (.sh (.lst ds))) env (oa (env.set i (.sh (.lst ds)))) := (rfl)
theorem e_lndSs (i : Nat) (oa : FE.Env → OE) (env : FE.Env) (d : D) : lndS i oa env (some (.sh d)) = oa env := (rfl)
theorem e_lndK (env1 env : FE.Env) (r : R) (h1 : flatO r = true) (h2 : ownFl env1 = true) : lndK env1 env (.ok r env1) = .ok r env := by
  unfold lndK
  dsimp only
  rw [if_pos ⟨rfl, h1, h2⟩]
theorem e_flatO_o (ds : List D) : flatO (.ow ds) = ds.all flatD := (rfl)
theorem e_flatO_t (ds : List D) : flatO (.sh (.tup ds)) = ds.all flatD := (rfl)
theorem e_flatO_b (b : Bool) : flatO (.sh (.bl b)) = true := (rfl)
theorem e_flatO_i (i : Int) : flatO (.sh (.int i)) = true := (rfl)
theorem e_ownFl0 : ownFl [] = true := (rfl)
theorem e_ownFl1 (s : SV) (e : FE.Env) : ownFl (s :: e) = (flS s && ownFl e) := (rfl)
theorem e_flS_n : flS .no = true := (rfl)
theorem e_flS_s (d : D) : flS (.sh d) = true := (rfl)
theorem e_flS_o (ds : List D) : flS (.ow ds) = ds.all flatD := (rfl)
theorem e_flS_i (ds : List D) : flS (.io ds) = ds.all flatD := (rfl)
theorem fl_ints (ns : List Int) : (intsL ns).all flatD = true := by
  induction ns with
  | nil => rfl
  | cons n ns ih => exact ih
theorem ownFl_get : ∀ {e : FE.Env}, ownFl e = true → ∀ {i : Nat} {s : SV}, e[i]? = some s → flS s = true
  | [], _, _, _, h => by simp at h
  | t :: e, hf, 0, s, h => by
    rw [e_ownFl1, Bool.and_eq_true] at hf
    simp at h
    rw [← h]
    exact hf.1
  | t :: e, hf, i + 1, s, h => by
    rw [e_ownFl1, Bool.and_eq_true] at hf
    exact ownFl_get hf.2 (i := i) (by simpa using h)
theorem flS_own {s : SV} {ds : List D} (h : flS s = true) (o : Own s = some ds) : ds.all flatD = true := by
  cases s with
  | no => cases o
  | sh d => cases o
  | ow es => cases o; exact h
  | io es => cases o; exact h
theorem Rep.ofFlat {G : Gd} {F F' : Hp} {v : V} {d : D} (h : Rep G F v d) (p : flatD d = true) : Rep G F' v d := by
  cases h with
  | non => exact .non
  | bl b => exact .bl b
  | int i => exact .int i
  | str x => exact .str x
  | _ => cases p
theorem RepL.ofFlat {G : Gd} {F F' : Hp} : ∀ {vs : List V} {ds : List D}, RepL G F vs ds → ds.all flatD = true → RepL G F' vs ds
  | _, _, .nil, _ => .nil
  | _, _, .cons h r, p => by
    rw [List.all_cons, Bool.and_eq_true] at p
    exact .cons (h.ofFlat p.1) (RepL.ofFlat r p.2)
section
variable {X : Cx} {Z : Zd} {a : Expr} {oa : FE.Env → OE}
theorem n_lnd (i : Nat) (ha : PE X a (tE Z oa)) : PE X a (tE Z (oLnd i oa)) := by
  refine PE.imp ha fun σ H Q ⟨F, env, g, h⟩ => ?_
  unfold oLnd at h
  cases e : env[i]? with
  | none => rw [e] at h; exact h.elim
  | some s =>
    rw [e] at h
    cases s with
    | no => exact h.elim
    | io ds => exact h.elim
    | sh d => exact ⟨F, env, g, h⟩
    | ow ds =>
      rw [e_lndSo] at h
      obtain ⟨a0, vs, hu, hH, hF, hr, _⟩ := g.ow i _ ds e rfl
      have h0 : Z.H0 a0 = none := g.nio i ds e a0 hu
      have hi : i < env.length := (List.getElem?_eq_some_iff.mp e).1
      have g1 : Good Z (upd F a0 (.lst vs)) σ H (env.set i (.sh (.lst ds))) := by
        obtain ⟨a', vs', k1, k2, k3, k4⟩ := g.frzAt e
        rw [hu] at k1
        cases k1
        have q := k4.fh a0 _ upd_same
        rw [hH] at q
        cases q
        exact k4
      refine ⟨_, _, g1, ?_⟩
      generalize hE : env.set i (.sh (.lst ds)) = env1 at h g1 ⊢
      cases ho : oa env1 with
      | exc x e2 => rw [ho] at h; exact h.elim
      | bad => rw [ho] at h; exact h.elim
      | ok r e2 =>
        rw [ho] at h
        unfold lndK at h
        dsimp only at h
        split at h
        case isFalse => exact h.elim
        rename_i hc
        obtain ⟨rfl, hfr, hfe⟩ := hc
        intro v H' F' g' x' r'
        have xF : Ex F F' := (Ex.new hF).trans x'
        have ha' : F' a0 = some (.lst vs) := x' a0 _ upd_same
        have get1 : ∀ (j : Nat), j ≠ i → e2[j]? = env[j]? := fun j hj => by
          rw [← hE, List.getElem?_set_ne (Ne.symm hj)]
        have gg : Good Z F σ H' env :=
          { ff := g.ff
            fh := xF.trans g'.fh
            keep := g'.keep
            new := g.new
            len := g.len
            sh := g.sh
            ow := fun j s es e1 e3 => by
              by_cases hj : j = i
              · subst hj
                rw [e] at e1
                cases e1
                cases e3
                exact ⟨a0, vs, hu, g'.fh _ _ ha', hF, hr, .inr h0⟩
              · have e1' := e1
                rw [← get1 j hj] at e1'
                obtain ⟨a2, vs2, q1, q2, q3, q4, q5⟩ := g'.ow j s es e1' e3
                refine ⟨a2, vs2, q1, q2, ?_, q4.ofFlat (flS_own (ownFl_get hfe e1') e3), q5⟩
                cases q : F a2 with
                | none => rfl
                | some o => rw [xF a2 o q] at q3; cases q3
            io := g.io
            nio := g.nio
            pa := g.pa
            dis := g.dis }
        have own_ne : ∀ p, (F' p = none ∨ ∃ o t, F' p = some (.frz o (.tup t))) → (∀ (j : Nat) s, e2[j]? = some s → (Own s).isSome = true → σ[j]? ≠ some (some (.ref p))) → ∀ (j : Nat) s, env[j]? = some s → (Own s).isSome = true → σ[j]? ≠ some (some (.ref p)) := fun p hp hn j s e1 e3 e4 => by
          by_cases hj : j = i
          · subst hj
            rw [hu] at e4
            cases e4
            rcases hp with hp | ⟨o, t, hp⟩ <;> rw [ha'] at hp <;> cases hp
          · rw [← get1 j hj] at e1
            exact hn j s e1 e3 e4
        cases r with
        | ow es =>
          obtain ⟨p, ws, rfl, q1, q2, q3, q4, q5⟩ := r'
          refine h _ H' F gg (Ex.refl F) ⟨p, ws, rfl, q1, ?_, q3.ofFlat hfr, q4, own_ne p (.inl q2) q5⟩
          cases q : F p with
          | none => rfl
          | some o => rw [xF p o q] at q2; cases q2
        | sh d =>
          by_cases ht : ∃ es, d = .tup es
          · obtain ⟨es, rfl⟩ := ht
            cases r' with
            | @tup p ws es k1 k2 =>
              rcases k1 with ⟨o, k1, kd⟩ | k1
              · cases q : F p with
                | some u =>
                  have := xF p u q
                  rw [k1] at this
                  cases this
                  exact h _ H' F gg (Ex.refl F) (show Rep Z.G F (.ref p) (.tup es) from .tup (.inl ⟨o, q, kd⟩) (k2.ofFlat hfr))
                | none =>
                  have hHp : H' p = some (.frz o (.tup ws)) := g'.fh _ _ k1
                  have hF0 : Z.F0 p = none := by
                    cases q2 : Z.F0 p with
                    | none => rfl
                    | some u => rw [g.ff p u q2] at q; cases q
                  have hp0 : Z.H0 p = none := g'.new p _ k1 hF0
                  have g2 : Good Z (upd F p (.frz o (.tup ws))) σ H' env := gg.frz hHp q hp0 (own_ne p (.inr ⟨o, ws, k1⟩) (fun j s e1 e3 e4 => by
                    cases qo : Own s with
                    | none => rw [qo] at e3; cases e3
                    | some fs =>
                      obtain ⟨a2, vs2, w1, w2, w3, _⟩ := g'.ow j s fs e1 qo
                      rw [w1] at e4
                      cases e4
                      rw [k1] at w3
                      cases w3))
                  exact h _ H' _ g2 (Ex.new q) (show Rep Z.G _ (.ref p) (.tup es) from .tup (.inl ⟨o, upd_same, kd⟩) (k2.ofFlat hfr))
              · exact h _ H' F gg (Ex.refl F) (show Rep Z.G F (.ref p) (.tup es) from .tup (.inr k1) (k2.ofFlat hfr))
          · have hd : flatD d = true := by
              cases d <;> first | exact hfr | exact absurd ⟨_, rfl⟩ ht
            exact h _ H' F gg (Ex.refl F) (show Rep Z.G F v d from Rep.ofFlat r' hd)
end
end FE

namespace FE
open PySem PySem.Spec PyProof.Rows L2
/-! ### a value of one's own ahead of names and constants, handed in to be changed -/
def tPu (Z : Zd) (po : FE.Env → Option (List D)) : TA := fun σ H Q => ∃ F env, Good Z F σ H env ∧ ∃ ds, po env = some ds ∧ ∀ vs, RepL Z.G F vs ds → Q vs H
def pushD (d : D) : Option (List D) → Option (List D)
  | some ds => some (d :: ds)
  | none => none
def pvS (o : Option (List D)) : Option SV → Option (List D)
  | some (.sh d) => pushD d o
  | _ => none
def oPn : FE.Env → Option (List D) := fun _ => some []
def oPv (i : Nat) (po : FE.Env → Option (List D)) : FE.Env → Option (List D) := fun env => pvS (po env) env[i]?
def oPc (d : D) (po : FE.Env → Option (List D)) : FE.Env → Option (List D) := fun env => pushD d (po env)
def gopO (ds : List D) (e : FE.Env) : Option (List D) → OG
  | some es => .ok (.own ds :: es.map AD.v) e
  | none => .bad
def gopK (po : FE.Env → Option (List D)) (r : R) (e : FE.Env) : OG := match r with
  | .ow ds => gopO ds e (po e)
  | .sh _ => .bad
def oGop (oa : FE.Env → OE) (po : FE.Env → Option (List D)) : FE.Env → OG := fun env => (oa env).bindG (gopK po)
theorem e_gop (oa : FE.Env → OE) (po : FE.Env → Option (List D)) (env : FE.Env) : oGop oa po env = (oa env).bindG (gopK po) := (rfl)
theorem e_gopK (po : FE.Env → Option (List D)) (ds : List D) (e : FE.Env) : gopK po (.ow ds) e = gopO ds e (po e) := (rfl)
theorem e_gopO (ds es : List D) (e : FE.Env) : gopO ds e (some es) = .ok (.own ds :: es.map AD.v) e := (rfl)
theorem e_oPn (e : FE.Env) : oPn e = some [] := (rfl)
theorem e_oPv (i : Nat) (po : FE.Env → Option (List D)) (e : FE.Env) : oPv i po e = pvS (po e) e[i]? := (rfl)
theorem e_oPc (d : D) (po : FE.Env → Option (List D)) (e : FE.Env) : oPc d po e = pushD d (po e) := (rfl)
theorem e_pvS (o : Option (List D)) (d : D) : pvS o (some (.sh d)) = pushD d o := (rfl)
theorem e_pushD (d : D) (ds : List D) : pushD d (some ds) = some (d :: ds) := (rfl)
theorem repAs_v {Z : Zd} {F H : Hp} {σ : L2.St} {env : FE.Env} : ∀ {vs : List V} {ds : List D}, RepL Z.G F vs ds → RepAs Z F σ env H vs (ds.map AD.v)
  | _, _, .nil => .nil
  | _, _, .cons h r => .cons h (repAs_v r)
section
variable {X : Cx} {Z : Zd} {a : Expr} {es : List Expr} {oa : FE.Env → OE} {po : FE.Env → Option (List D)}
theorem n_pn : PA X [] (tPu Z oPn) := PA.imp pa_nil fun σ H Q ⟨F, env, g, ds, e, h⟩ => by
  cases e
  exact h [] .nil
theorem n_pv (i : Nat) {x : PySem.Str} {pos : Pos} (hr : PA X es (tPu Z po)) (hN : X.N[i]? = some x := by rfl) (hv : Vis X.env.scope x := by first | exact Or.inl rfl | exact Or.inr (Or.inl rfl) | exact Or.inr (Or.inr rfl)) (hd : (x == ("__debug__" : PySem.Str)) = false := by decide)
    (hcd : (x == ("__classdict__" : PySem.Str)) = false := by decide) (hs : starEach ((.Name x pos) :: es) X.env = (false, eval (.Name x pos) X.env) :: starEach es X.env := by rfl) : PA X ((.Name x pos) :: es) (tPu Z (oPv i po)) := by
  refine PA.imp (pa_cons (pe_var hN hv hd hcd) hr hs) fun σ H Q ⟨F, env, g, ds, e, h⟩ => ?_
  unfold oPv at e
  cases q : env[i]? with
  | none => rw [q] at e; cases e
  | some s =>
    rw [q] at e
    cases s <;> try cases e
    rename_i d
    rw [e_pvS] at e
    obtain ⟨v, h1, h2⟩ := g.sh i d q
    refine ⟨v, h1, F, env, g, ?_⟩
    cases p : po env with
    | none => rw [p] at e; cases e
    | some es =>
      rw [p] at e
      cases e
      exact ⟨es, rfl, fun vs r => h (v :: vs) (.cons h2 r)⟩
theorem n_pc {v : V} {d : D} {e : Expr} (hc : PE X e (tC v)) (r : ∀ F, Rep Z.G F v d) (hr : PA X es (tPu Z po)) (hs : starEach (e :: es) X.env = (false, eval e X.env) :: starEach es X.env := by rfl) : PA X (e :: es) (tPu Z (oPc d po)) := by
  refine PA.imp (pa_cons hc hr hs) fun σ H Q ⟨F, env, g, ds, e, h⟩ => ?_
  unfold oPc at e
  cases p : po env with
  | none => rw [p] at e; cases e
  | some es =>
    rw [p] at e
    cases e
    exact ⟨F, env, g, es, p, fun vs rv => h (v :: vs) (.cons (r F) rv)⟩
theorem n_pint {i : Int} {j pos} (hr : PA X es (tPu Z po)) (hs : starEach (Expr.Constant (.int i) j pos :: es) X.env = (false, eval (.Constant (.int i) j pos) X.env) :: starEach es X.env := by rfl) : PA X (.Constant (.int i) j pos :: es) (tPu Z (oPc (.int i) po)) := n_pc pe_int (fun _ => .int i) hr hs
theorem n_gop (ha : PE X a (tE Z oa)) (hr : PA X es (tPu Z po)) (hs : starEach (a :: es) X.env = (false, eval a X.env) :: starEach es X.env := by rfl) : PA X (a :: es) (tG Z (oGop oa po)) := by
  refine PA.imp (pa_cons ha hr hs) fun σ H Q ⟨F, env, g, h⟩ => ?_
  refine seqEG g h fun r1 env1 v1 H1 F1 g1 x1 rp1 h1 => ?_
  cases r1 with
  | sh d => exact h1.elim
  | ow ds =>
    rw [e_gopK] at h1
    cases p : po env1 with
    | none => rw [p] at h1; exact h1.elim
    | some es =>
      rw [p] at h1
      exact ⟨F1, env1, g1, es, p, fun vs rv => h1 (v1 :: vs) H1 F1 g1 (Ex.refl F1) (.cons (show RepR Z F1 σ env1 H1 v1 (.ow ds) from rp1) (repAs_v rv))⟩
end
/-! ### x *= n -/
def aumO (i : Nat) (e : FE.Env) (x : Int) : D → OS
  | .int y => if x.natAbs.log2 + y.natAbs.log2 < 1000000 then (if noIo e[i]? = true then .nx (e.set i (.sh (.int (x * y)))) else .bad) else .bad
  | _ => .bad
def aumK (i : Nat) (x : Int) (r : R) (e : FE.Env) : OS := aumO i e x r.fz
def aumS (i : Nat) (oa : FE.Env → OE) (env : FE.Env) : Option SV → OS
  | some (.sh (.int x)) => (oa env).bindS (aumK i x)
  | _ => .bad
def sAugM (i : Nat) (oa : FE.Env → OE) : FE.Env → OS := fun env => aumS i oa env env[i]?
theorem e_augM (i : Nat) (oa : FE.Env → OE) (env : FE.Env) : sAugM i oa env = aumS i oa env env[i]? := (rfl)
theorem e_aumS (i : Nat) (oa : FE.Env → OE) (env : FE.Env) (x : Int) : aumS i oa env (some (.sh (.int x))) = (oa env).bindS (aumK i x) := (rfl)
theorem e_aumK (i : Nat) (x : Int) (r : R) (e : FE.Env) : aumK i x r e = aumO i e x r.fz := (rfl)
theorem e_aumO (i : Nat) (e : FE.Env) (x y : Int) (h : x.natAbs.log2 + y.natAbs.log2 < 1000000) (n : noIo e[i]? = true) : aumO i e x (.int y) = .nx (e.set i (.sh (.int (x * y)))) := by
  unfold aumO
  dsimp only
  rw [if_pos h, if_pos n]
section
variable {X : Cx} {Z : Zd} {a : Expr} {oa : FE.Env → OE} {pos pos' : Pos}
theorem ip_mulW : PIp X .Mult (fun x y H Q => ∃ i j, x = .int i ∧ y = .int j ∧ CMulW i j ∧ Q (.int (i * j)) H) := by
  intro pins s σ H x y v u Q I r1 r2 h
  obtain ⟨i, j, e1, e2, hc, q⟩ := h
  subst e1; subst e2
  obtain ⟨t, rfl⟩ := r1
  obtain ⟨t', rfl⟩ := r2
  exact imul_int ⟨.int _, H, I.tok _, ⟨_, rfl⟩, q⟩ hc.ok
theorem n_augM (i : Nat) {x : PySem.Str} (hN : X.N.Nodup) (ha : PE X a (tE Z oa)) (hi : X.N[i]? = some x := by rfl) (hx : Loc X.env.scope x := by first | exact .inl rfl | exact .inr rfl)
    (hf : X.fn x = true ∨ X.env.scope.names.lookup x = some .local := by first | exact .inl rfl | exact .inr rfl) : PS X (.AugAssign (.Name x pos') .Mult a pos) (tS Z (sAugM i oa)) := by
  refine PS.imp (ps_aug hN hi hx ha ip_mulW hf) fun Dn σ H ⟨F, env, g, h⟩ => ?_
  unfold sAugM at h
  cases q : env[i]? with
  | none => rw [q] at h; exact h.elim
  | some s =>
    rw [q] at h
    cases s <;> try exact h.elim
    rename_i d
    cases d <;> try exact h.elim
    rename_i n
    obtain ⟨v, hv, rv⟩ := g.sh i _ q
    cases rv
    rw [e_aumS] at h
    refine ⟨.int n, hv, ?_⟩
    refine seqES g h fun r env1 w H1 F1 g1 x1 r1 h1 => ?_
    obtain ⟨F2, g2, x2, r2⟩ := g1.give r1
    replace h1 := PostS.up x2 h1
    unfold aumK at h1
    generalize r.fz = dd at h1 r2
    cases dd <;> try exact h1.elim
    rename_i m
    cases r2
    unfold aumO at h1
    dsimp only at h1
    split at h1
    case isFalse => exact h1.elim
    rename_i cm
    split at h1
    case isFalse => exact h1.elim
    rename_i c
    exact ⟨n, m, rfl, rfl, cm, h1 _ H1 F2 (g2.asg (r := .sh (.int (n * m))) (.int (n * m)) c) (Ex.refl F2)⟩
end
end FE

namespace FE
open PySem PySem.Spec PyProof.Rows L2
/-! ### list(..).index(z), flat values, a text -/
def lisO (e : FE.Env) (xs : List D) : Option Nat → OE
  | some j => if xs.all flatD = true then .ok (.sh (.int (j : Nat))) e else .bad
  | none => .bad
def lisD (e : FE.Env) (xs : List D) : D → OE
  | .str z => lisO e xs (ixOf z xs)
  | _ => .bad
def lisK2 (xs : List D) (r : R) (e : FE.Env) : OE := lisD e xs r.fz
def lisK1 (oa : FE.Env → OE) (e : FE.Env) : D → OE
  | .lst xs => (oa e).bind (lisK2 xs)
  | _ => .bad
def lisK0 (oa : FE.Env → OE) (r : R) (e : FE.Env) : OE := lisK1 oa e r.fz
def oLis (oo oa : FE.Env → OE) : FE.Env → OE := fun env => (oo env).bind (lisK0 oa)
theorem e_lis (oo oa : FE.Env → OE) (env : FE.Env) : oLis oo oa env = (oo env).bind (lisK0 oa) := (rfl)
theorem e_lisK0 (oa : FE.Env → OE) (r : R) (e : FE.Env) : lisK0 oa r e = lisK1 oa e r.fz := (rfl)
theorem e_lisK1 (oa : FE.Env → OE) (e : FE.Env) (xs : List D) : lisK1 oa e (.lst xs) = (oa e).bind (lisK2 xs) := (rfl)
theorem e_lisK2 (xs : List D) (r : R) (e : FE.Env) : lisK2 xs r e = lisD e xs r.fz := (rfl)
theorem e_lisD (e : FE.Env) (xs : List D) (z : PySem.Str) : lisD e xs (.str z) = lisO e xs (ixOf z xs) := (rfl)
theorem e_lisO (e : FE.Env) (xs : List D) (j : Nat) (h : xs.all flatD = true) : lisO e xs (some j) = .ok (.sh (.int (j : Nat))) e := by
  unfold lisO
  dsimp only
  rw [if_pos h]
section
variable {X : Cx} {Z : Zd} {o e : Expr} {oo oa : FE.Env → OE} {apos cpos : Pos}
theorem n_lis (hK : Z.G.K = X.K) (ho : PE X o (tE Z oo)) (ha : PE X e (tE Z oa))
    (hbase : attributeBase o "index" X.env (eval o X.env) = eval o X.env := by rfl)
    (hfew : ((backTo cpos (starEach [e] X.env)).all (fun x => !x.1) && (backToKw cpos (keywordEach [] X.env)).all (fun x => x.1.isSome)
      && decide ([e].length + ([] : List Keyword).length + (if ([] : List Keyword).isEmpty then 0 else 1) < 30)) = true := by rfl)
    (hline : (apos.endLine == cpos.line) = true := by rfl) (hs : starEach [e] X.env = (false, eval e X.env) :: starEach [] X.env := by rfl) :
    PE X (.Call (.Attribute o "index" apos) [e] [] cpos) (tE Z (oLis oo oa)) := by
  refine PE.imp (pe_bm PySem.F.plainAttrs_list PySem.F.slot_list_index PySem.F.type_list_index mt_index ho (pa_cons ha pa_nil hs) (hbase := hbase) (hfew := hfew) (hline := hline) (hs := hs)) fun σ H Q ⟨F, env, g, h⟩ => ?_
  unfold oLis at h
  refine seqE g h fun r1 env1 v1 H1 F1 g1 x1 rp1 h1 => ?_
  unfold lisK0 at h1
  generalize r1.fz = d at h1 rp1
  cases d <;> first | exact h1.elim | skip
  rename_i xs
  rw [e_lisK1] at h1
  cases rp1 with
  | lst k1 k2 =>
    refine ⟨.inl ⟨rfl, _, by rw [← hK]; exact (g1.fh.lr k1).sq⟩, ?_⟩
    refine seqE g1 h1 fun r2 env2 v2 H2 F3 g3 x3 rp3 h2 => ?_
    unfold lisK2 at h2
    generalize r2.fz = d2 at h2 rp3
    cases d2 <;> first | exact h2.elim | skip
    rename_i z
    rw [e_lisD] at h2
    cases rp3
    cases qi : ixOf z xs with
    | none => rw [qi] at h2; exact h2.elim
    | some j =>
      rw [qi] at h2
      unfold lisO at h2
      dsimp only at h2
      split at h2
      case isFalse => exact h2.elim
      rename_i hf
      obtain ⟨⟨d, m1, m2⟩, m3⟩ := ixOf_some qi
      obtain ⟨e1, f1⟩ := (k2.mono x3).fv hf
      have key : ∀ (b : Bool) d, isStr z d = b → eqV d.fv (.str z) = b := by
        intro b d h
        cases d <;> exact h
      refine ⟨_, _, .str z, j, d.fv, rfl, rfl, by rw [← hK]; exact ((x3.trans g3.fh).lr k1).sq, rfl, f1, ?_, key _ _ m2, ?_, h2 _ H2 F3 g3 (Ex.refl F3) (.int _)⟩
      · rw [e1, List.getElem?_map, m1]
        rfl
      · intro m z' hm hz
        rw [e1, List.getElem?_map] at hz
        cases hz2 : xs[m]? with
        | none => rw [hz2] at hz; cases hz
        | some y =>
          rw [hz2] at hz
          cases hz
          exact key _ _ (m3 m y hm hz2)
end
end FE

namespace countfold_k08_rows_worth_and_added
open PySem PySem.Spec PyProof.Rows L2 FE
abbrev Lw : PySem.W.OpenLaw := PySem.Challenge.rw_countfold_k08_rows_worth_and_added
def topS (i : Nat) : Stmt := Lw.prog.main.body.getD i (.Pass ⟨0, 0, 0, 0⟩)
def clsS (i j : Nat) : Stmt := match topS i with
  | .ClassDef _ _ _ body _ _ _ _ _ _ _ => body.getD j (.Pass ⟨0, 0, 0, 0⟩)
  | _ => .Pass ⟨0, 0, 0, 0⟩
def dd (at_ : PySem.Str × Option PySem.Str) (x q : PySem.Str) (st : Stmt) (ds : List He.Dv) (kd : List (PySem.Str × He.Dv)) : He.DefD := ⟨at_, x, q, defArgs st, defBody st, defScope st, ds, kd⟩
def fn : List He.DefD := [dd ("row_worth", none) "row_worth" "row_worth" (topS 1) [] [], dd ("added", none) "added" "added" (topS 2) [] [], dd ("_law_pool", none) "_law_pool" "_law_pool" (topS 4) [] [], dd ("_law_take", none) "_law_take" "_law_take" (topS 5) [] [], dd ("_law_folded", none) "_law_folded" "_law_folded" (topS 6) [] [], dd ("_law_worth_at", none) "_law_worth_at" "_law_worth_at" (topS 11) [] [], dd ("_law_great", none) "_law_great" "_law_great" (topS 7) [] [], dd ("_law_dressed", none) "_law_dressed" "_law_dressed" (topS 10) [] [], dd ("_law_number", none) "_law_number" "_law_number" (topS 8) [] [], dd ("_law_row", none) "_law_row" "_law_row" (topS 9) [] [], dd ("_law_right", none) "_law_right" "_law_right" (topS 12) [] [], dd ("law", none) "law" "law" (topS 13) [] []]
def fa : List He.Fa := [.glo "row_worth", .glo "added", .glo "_law_pool", .glo "_law_take", .glo "_law_folded", .glo "_law_worth_at", .glo "_law_great", .glo "_law_dressed", .glo "_law_number", .glo "_law_row", .glo "_law_right", .glo "law", .free "zip", .free "sum", .free "tuple", .free "len", .free "max", .free "min", .free "range", .free "enumerate", .free "list", .free "repr", .free "all"]
abbrev fx_zip : Nat := 12
abbrev fx_sum : Nat := 13
abbrev fx_tuple : Nat := 14
abbrev fx_len : Nat := 15
abbrev fx_max : Nat := 16
abbrev fx_min : Nat := 17
abbrev fx_range : Nat := 18
abbrev fx_enumerate : Nat := 19
abbrev fx_list : Nat := 20
abbrev fx_repr : Nat := 21
abbrev fx_all : Nat := 22
def ex (_ : PySem.W.Frag) : Bool := true
abbrev Tx := Tp fa fn ex
def C0 : PySem.Str → Value → Prop := fun _ _ => False
variable {P : Program} {w : World} {K : PySem.W.Frag} {mg : PySem.Str → Option Value} {base h : Heap}
/-! row_worth -/
theorem sc_row_worth : FnScope ["row", "values", "coef", "value"] ["row", "values"] (defScope (topS 1)) := ⟨rfl, rfl, rfl, by decide +kernel, rfl, by decide +kernel, by decide +kernel⟩
noncomputable def E_row_worth_0 : FE.Env → OE := (oOp2 mulF' (oVar 2) (oVar 3))
theorem u_E_row_worth_0 (env : FE.Env) : E_row_worth_0 env = (oOp2 mulF' (oVar 2) (oVar 3)) env := (rfl)
noncomputable def C_row_worth_0 : FE.Env → OE := (oLc (iZq (oCons (oSl sliceF (oVar 0) (oPI (oC (.int 1))) (oC .non)) (oCons (oVar 1) oNil))) (gTupF 2 (gConsF (gVar 2) (gConsF (gVar 3) gNilF))) oYes E_row_worth_0 [2, 3])
theorem u_C_row_worth_0 (env : FE.Env) : C_row_worth_0 env = (oLc (iZq (oCons (oSl sliceF (oVar 0) (oPI (oC (.int 1))) (oC .non)) (oCons (oVar 1) oNil))) (gTupF 2 (gConsF (gVar 2) (gConsF (gVar 3) gNilF))) oYes E_row_worth_0 [2, 3]) env := (rfl)
noncomputable def F_row_worth : FE.Env → OS := (sRet (oOp2 addF (oIxV 0 (oC (.int 0))) (oCallB sumF2 (oCons C_row_worth_0 oNil))))
noncomputable def f_row_worth : List D → OC := runF 4 none F_row_worth
theorem ok_row_worth (T : Tx w K mg h) {fd : FuncData} (F : FunD K "row_worth" "row_worth" (defArgs (topS 1)) (defBody (topS 1)) (defScope (topS 1)) [] [] (He.ga K "row_worth") fd) : FnG P w K mg base 1 (He.ga K "row_worth") fd ["row", "values"] (spF ⟨K, mg⟩ C0 2 none f_row_worth) := by
  refine fnF F sc_row_worth none (fun cdv A outer s H E F0 as hr hd => ?_)
  exact (n_last (n_ret (n_bin op_addU s_add (n_ixV 0 n_int rfl) (n_cb (cr_sum2 rfl) s_sum2 (T.free fx_sum) (n_cons (n_comp [("coef", 2), ("value", 3)] sc_row_worth.nd (n_zipq (T.free fx_zip) rfl (n_cons (n_slice sl_U s_slice (n_var 0) (n_psome n_int) n_pnone) (n_cons (n_var 1) n_nil))) (tg_tup (tgs_cons (tg_var 2) (tgs_cons (tg_var 3) tgs_nil))) (fun s H C cl fp => (pg_tup rfl (pgs_cons (pg_name (i := 2) sc_row_worth.nd rfl (by first | exact .inl rfl | exact .inr rfl)) (pgs_cons (pg_name (i := 3) sc_row_worth.nd rfl (by first | exact .inl rfl | exact .inr rfl)) pgs_nil)))) (fun F0 H0 as s H C cl fp => n_yes) (fun F0 H0 as s H C cl fp => (n_bin op_mulU s_mul (n_var 2) (n_var 3)))) n_nil)))))
theorem cal_row_worth (T : Tx w K mg h) : Cal P w K mg base 1 "row_worth" 2 [] (fun vs _ => vs) (spF ⟨K, mg⟩ C0 2 none f_row_worth) := by
  obtain ⟨fd, F⟩ := T.d.def_ 0 (d := dd ("row_worth", none) "row_worth" "row_worth" (topS 1) [] []) rfl
  exact cal_of2 (ps := ["row", "values"]) T.kx T.g (T.fact 0) F (ok_row_worth T F) (fun _ _ _ _ _ _ us hl => match us, hl with | [_, _], _ => rfl)
/-! added -/
theorem sc_added : FnScope ["rows", "weights", "width", "total", "row", "weight", "have", "more"] ["rows", "weights", "width"] (defScope (topS 2)) := ⟨rfl, rfl, rfl, by decide +kernel, rfl, by decide +kernel, by decide +kernel⟩
noncomputable def S_added_0 : FE.Env → OS := (sAsgF 3 (oOp2 mulF' (oLst (oCons (oC (.int 0)) oNil)) (oOp2 addF (oVar 2) (oC (.int 1)))))
theorem u_S_added_0 (env : FE.Env) : S_added_0 env = (sAsgF 3 (oOp2 mulF' (oLst (oCons (oC (.int 0)) oNil)) (oOp2 addF (oVar 2) (oC (.int 1))))) env := (rfl)
noncomputable def E_added_0 : FE.Env → OE := (oOp2 addF (oVar 6) (oOp2 mulF' (oVar 5) (oVar 7)))
theorem u_E_added_0 (env : FE.Env) : E_added_0 env = (oOp2 addF (oVar 6) (oOp2 mulF' (oVar 5) (oVar 7))) env := (rfl)
noncomputable def C_added_0 : FE.Env → OE := (oLc (iZq (oCons (oVar 3) (oCons (oVar 4) oNil))) (gTupF 2 (gConsF (gVar 6) (gConsF (gVar 7) gNilF))) oYes E_added_0 [6, 7])
theorem u_C_added_0 (env : FE.Env) : C_added_0 env = (oLc (iZq (oCons (oVar 3) (oCons (oVar 4) oNil))) (gTupF 2 (gConsF (gVar 6) (gConsF (gVar 7) gNilF))) oYes E_added_0 [6, 7]) env := (rfl)
noncomputable def Q_added_0 : FE.Env → OS := (sIf (oTru (oOp2 neF (oVar 5) (oC (.int 0)))) (sAsgF 3 C_added_0) sPass)
theorem u_Q_added_0 (env : FE.Env) : Q_added_0 env = (sIf (oTru (oOp2 neF (oVar 5) (oC (.int 0)))) (sAsgF 3 C_added_0) sPass) env := (rfl)
noncomputable def L_added_0 : FE.Env → OS := (sFor (iZq (oCons (oVar 0) (oCons (oVar 1) oNil))) (gTupF 2 (gConsF (gVar 4) (gConsF (gVar 5) gNilF))) Q_added_0)
theorem u_L_added_0 (env : FE.Env) : L_added_0 env = (sFor (iZq (oCons (oVar 0) (oCons (oVar 1) oNil))) (gTupF 2 (gConsF (gVar 4) (gConsF (gVar 5) gNilF))) Q_added_0) env := (rfl)
noncomputable def S_added_1 : FE.Env → OS := (sRet (oCallB tupF (oCons (oVar 3) oNil)))
theorem u_S_added_1 (env : FE.Env) : S_added_1 env = (sRet (oCallB tupF (oCons (oVar 3) oNil))) env := (rfl)
noncomputable def F_added : FE.Env → OS := (sSeq S_added_0 (sSeq L_added_0 S_added_1))
noncomputable def f_added : List D → OC := runF 8 none F_added
theorem ok_added (T : Tx w K mg h) {fd : FuncData} (F : FunD K "added" "added" (defArgs (topS 2)) (defBody (topS 2)) (defScope (topS 2)) [] [] (He.ga K "added") fd) : FnG P w K mg base 1 (He.ga K "added") fd ["rows", "weights", "width"] (spF ⟨K, mg⟩ C0 3 none f_added) := by
  refine fnF F sc_added none (fun cdv A outer s H E F0 as hr hd => ?_)
  exact (n_seq (n_frz (n_asg 3 sc_added.nd (n_bin op_mulU s_mul (n_lst (n_cons n_int n_nil)) (n_bin op_addU s_add (n_var 2) n_int))))
    (n_seq (n_for (ws := [4, 5]) hd.2 rfl (n_zipq (T.free fx_zip) rfl (n_cons (n_var 0) (n_cons (n_var 1) n_nil))) (pg_tup rfl (pgs_cons (pg_name (i := 4) sc_added.nd rfl (by first | exact .inl rfl | exact .inr rfl)) (pgs_cons (pg_name (i := 5) sc_added.nd rfl (by first | exact .inl rfl | exact .inr rfl)) pgs_nil))) (tg_tup (tgs_cons (tg_var 4) (tgs_cons (tg_var 5) tgs_nil))) (n_last (n_ifS (n_tcmp (op_neU (room_64 hr)) s_ne (n_var 5) n_int) (n_last (n_frz (n_asgComp 3 [("have", 6), ("more", 7)] sc_added.nd (n_zipq (T.free fx_zip) rfl (n_cons (n_var 3) (n_cons (n_var 4) n_nil))) (tg_tup (tgs_cons (tg_var 6) (tgs_cons (tg_var 7) tgs_nil))) (fun s H C cl fp => (pg_tup rfl (pgs_cons (pg_name (i := 6) sc_added.nd rfl (by first | exact .inl rfl | exact .inr rfl)) (pgs_cons (pg_name (i := 7) sc_added.nd rfl (by first | exact .inl rfl | exact .inr rfl)) pgs_nil)))) (fun F0 H0 as s H C cl fp => n_yes) (fun F0 H0 as s H C cl fp => (n_bin op_addU s_add (n_var 6) (n_bin op_mulU s_mul (n_var 5) (n_var 7))))))) n_end)))
    (n_last (n_ret (n_ct call_tupleN s_tup (T.free fx_tuple) (n_cons (n_var 3) n_nil))))))
theorem calz_added (T : Tx w K mg h) : Cal P w K mg base 1 "added" 0 ["rows", "weights", "width"] (fun _ zs => zs) (spF ⟨K, mg⟩ C0 3 none f_added) := by
  obtain ⟨fd, F⟩ := T.d.def_ 1 (d := dd ("added", none) "added" "added" (topS 2) [] []) rfl
  exact cal_k0 (ps := ["rows", "weights", "width"]) ["rows", "weights", "width"] T.kx T.g (T.fact 1) F (ok_added T F) (fun _ _ _ _ _ _ ws hw => match ws, hw with | [_, _, _], _ => rfl)
theorem calk_added (T : Tx w K mg h) : Cal P w K mg base 1 "added" 2 ["width"] (fun vs zs => vs ++ zs) (spF ⟨K, mg⟩ C0 3 none f_added) := by
  obtain ⟨fd, F⟩ := T.d.def_ 1 (d := dd ("added", none) "added" "added" (topS 2) [] []) rfl
  exact cal_kw (ps := ["rows", "weights", "width"]) 2 ["width"] T.kx T.g (T.fact 1) F (ok_added T F) (fun _ _ _ _ _ _ us ws hl hw => match us, hl, ws, hw with | [_, _], _, [_], _ => rfl)
/-! _law_pool -/
theorem sc__law_pool : FnScope ["_law_script", "_law_k", "_law_cell"] ["_law_script", "_law_k"] (defScope (topS 4)) := ⟨rfl, rfl, rfl, by decide +kernel, rfl, by decide +kernel, by decide +kernel⟩
noncomputable def S__law_pool_0 : FE.Env → OS := (sAsgF 2 (oC (.int 0)))
theorem u_S__law_pool_0 (env : FE.Env) : S__law_pool_0 env = (sAsgF 2 (oC (.int 0))) env := (rfl)
noncomputable def S__law_pool_1 : FE.Env → OS := (sIf (oTru (oOp2 ltF (oVar 1) (oLenV 0))) (sAsgF 2 (oIxV 0 (oVar 1))) sPass)
theorem u_S__law_pool_1 (env : FE.Env) : S__law_pool_1 env = (sIf (oTru (oOp2 ltF (oVar 1) (oLenV 0))) (sAsgF 2 (oIxV 0 (oVar 1))) sPass) env := (rfl)
noncomputable def S__law_pool_2 : FE.Env → OS := (sRet (oLst (oCons (oCallB maxF (oCons (oC (.int 0)) (oCons (oOp2 (iI fun i j => i - j) (oVar 2) (oOp2 powF (oC (.int 10)) (oC (.int 18)))) oNil))) (oCons (oOp2 modF (oVar 2) (oC (.int 1000000007))) (oCons (oOp2 addF (oOp2 mulF' (oC (.int 7919)) (oVar 1)) (oC (.int 1))) oNil)))))
theorem u_S__law_pool_2 (env : FE.Env) : S__law_pool_2 env = (sRet (oLst (oCons (oCallB maxF (oCons (oC (.int 0)) (oCons (oOp2 (iI fun i j => i - j) (oVar 2) (oOp2 powF (oC (.int 10)) (oC (.int 18)))) oNil))) (oCons (oOp2 modF (oVar 2) (oC (.int 1000000007))) (oCons (oOp2 addF (oOp2 mulF' (oC (.int 7919)) (oVar 1)) (oC (.int 1))) oNil))))) env := (rfl)
noncomputable def F__law_pool : FE.Env → OS := (sSeq S__law_pool_0 (sSeq S__law_pool_1 S__law_pool_2))
noncomputable def f__law_pool : List D → OC := runF 3 none F__law_pool
theorem ok__law_pool (T : Tx w K mg h) {fd : FuncData} (F : FunD K "_law_pool" "_law_pool" (defArgs (topS 4)) (defBody (topS 4)) (defScope (topS 4)) [] [] (He.ga K "_law_pool") fd) : FnG P w K mg base 1 (He.ga K "_law_pool") fd ["_law_script", "_law_k"] (spF ⟨K, mg⟩ C0 2 none f__law_pool) := by
  refine fnF F sc__law_pool none (fun cdv A outer s H E F0 as hr hd => ?_)
  exact (n_seq (n_frz (n_asg 2 sc__law_pool.nd n_int))
    (n_seq (n_ifS (n_tcmp op_ltU s_ord (n_var 1) (n_lenV 0 (T.free fx_len) rfl)) (n_last (n_frz (n_asg 2 sc__law_pool.nd (n_ixV 0 (n_var 1) rfl)))) n_end)
    (n_last (n_ret (n_lst (n_cons (n_cb (call_maxU rfl) s_max (T.free fx_max) (n_cons n_int (n_cons (n_bin op_sub s_iI (n_var 2) (n_bin op_pow s_pow n_int n_int)) n_nil))) (n_cons (n_bin op_mod s_mod (n_var 2) n_int) (n_cons (n_bin op_addU s_add (n_bin op_mulU s_mul n_int (n_var 1)) n_int) n_nil))))))))
theorem cal__law_pool (T : Tx w K mg h) : Cal P w K mg base 1 "_law_pool" 2 [] (fun vs _ => vs) (spF ⟨K, mg⟩ C0 2 none f__law_pool) := by
  obtain ⟨fd, F⟩ := T.d.def_ 2 (d := dd ("_law_pool", none) "_law_pool" "_law_pool" (topS 4) [] []) rfl
  exact cal_of2 (ps := ["_law_script", "_law_k"]) T.kx T.g (T.fact 2) F (ok__law_pool T F) (fun _ _ _ _ _ _ us hl => match us, hl with | [_, _], _ => rfl)
/-! _law_take -/
theorem sc__law_take : FnScope ["_law_pool_here", "_law_many", "_law_one", "_law_two", "_law_digit"] ["_law_pool_here", "_law_many"] (defScope (topS 5)) := ⟨rfl, rfl, rfl, by decide +kernel, rfl, by decide +kernel, by decide +kernel⟩
noncomputable def S__law_take_0 : FE.Env → OS := (sIf (oTru (oOp2 gtF (oIxV 0 (oC (.int 0))) (oC (.int 0)))) (sSeq (sAsgF 4 (oOp2 modF (oIxV 0 (oC (.int 0))) (oVar 1))) (sSeq (sSetI 0 (oC (.int 0)) (oOp2 fdivF (oIxV 0 (oC (.int 0))) (oVar 1))) (sRet (oMv 4)))) sPass)
theorem u_S__law_take_0 (env : FE.Env) : S__law_take_0 env = (sIf (oTru (oOp2 gtF (oIxV 0 (oC (.int 0))) (oC (.int 0)))) (sSeq (sAsgF 4 (oOp2 modF (oIxV 0 (oC (.int 0))) (oVar 1))) (sSeq (sSetI 0 (oC (.int 0)) (oOp2 fdivF (oIxV 0 (oC (.int 0))) (oVar 1))) (sRet (oMv 4)))) sPass) env := (rfl)
noncomputable def S__law_take_1 : FE.Env → OS := (sSetI 0 (oC (.int 2)) (oOp2 addF (oIxV 0 (oC (.int 2))) (oC (.int 1))))
theorem u_S__law_take_1 (env : FE.Env) : S__law_take_1 env = (sSetI 0 (oC (.int 2)) (oOp2 addF (oIxV 0 (oC (.int 2))) (oC (.int 1)))) env := (rfl)
noncomputable def S__law_take_2 : FE.Env → OS := (sAsgF 2 (oOp2 modF (oOp2 addF (oOp2 addF (oOp2 mulF' (oIxV 0 (oC (.int 1))) (oC (.int 48271))) (oOp2 mulF' (oC (.int 104729)) (oIxV 0 (oC (.int 2))))) (oC (.int 101))) (oC (.int 2147483629))))
theorem u_S__law_take_2 (env : FE.Env) : S__law_take_2 env = (sAsgF 2 (oOp2 modF (oOp2 addF (oOp2 addF (oOp2 mulF' (oIxV 0 (oC (.int 1))) (oC (.int 48271))) (oOp2 mulF' (oC (.int 104729)) (oIxV 0 (oC (.int 2))))) (oC (.int 101))) (oC (.int 2147483629)))) env := (rfl)
noncomputable def S__law_take_3 : FE.Env → OS := (sAsgF 2 (oOp2 modF (oOp2 powF (oVar 2) (oC (.int 5))) (oC (.int 2147483587))))
theorem u_S__law_take_3 (env : FE.Env) : S__law_take_3 env = (sAsgF 2 (oOp2 modF (oOp2 powF (oVar 2) (oC (.int 5))) (oC (.int 2147483587)))) env := (rfl)
noncomputable def S__law_take_4 : FE.Env → OS := (sAsgF 3 (oOp2 modF (oOp2 powF (oOp2 addF (oOp2 addF (oVar 2) (oOp2 mulF' (oOp2 mulF' (oC (.int 69621)) (oIxV 0 (oC (.int 2)))) (oIxV 0 (oC (.int 2))))) (oOp2 modF (oIxV 0 (oC (.int 1))) (oC (.int 65537)))) (oC (.int 3))) (oC (.int 2147483563))))
theorem u_S__law_take_4 (env : FE.Env) : S__law_take_4 env = (sAsgF 3 (oOp2 modF (oOp2 powF (oOp2 addF (oOp2 addF (oVar 2) (oOp2 mulF' (oOp2 mulF' (oC (.int 69621)) (oIxV 0 (oC (.int 2)))) (oIxV 0 (oC (.int 2))))) (oOp2 modF (oIxV 0 (oC (.int 1))) (oC (.int 65537)))) (oC (.int 3))) (oC (.int 2147483563)))) env := (rfl)
noncomputable def S__law_take_5 : FE.Env → OS := (sRet (oOp2 modF (oOp2 fdivF (oOp2 modF (oOp2 mulF' (oVar 3) (oC (.int 40692))) (oC (.int 2147483549))) (oC (.int 64))) (oVar 1)))
theorem u_S__law_take_5 (env : FE.Env) : S__law_take_5 env = (sRet (oOp2 modF (oOp2 fdivF (oOp2 modF (oOp2 mulF' (oVar 3) (oC (.int 40692))) (oC (.int 2147483549))) (oC (.int 64))) (oVar 1))) env := (rfl)
noncomputable def F__law_take : FE.Env → OS := (sSeq S__law_take_0 (sSeq S__law_take_1 (sSeq S__law_take_2 (sSeq S__law_take_3 (sSeq S__law_take_4 S__law_take_5)))))
noncomputable def f__law_take : List D → OC := runF 5 (some 0) F__law_take
theorem ok__law_take (T : Tx w K mg h) {fd : FuncData} (F : FunD K "_law_take" "_law_take" (defArgs (topS 5)) (defBody (topS 5)) (defScope (topS 5)) [] [] (He.ga K "_law_take") fd) : FnG P w K mg base 1 (He.ga K "_law_take") fd ["_law_pool_here", "_law_many"] (spF ⟨K, mg⟩ C0 2 (some 0) f__law_take) := by
  refine fnF F sc__law_take (some 0) (fun cdv A outer s H E F0 as hr hd => ?_)
  exact (n_seq (n_ifS (n_tcmp op_gtU s_ord (n_ixV 0 n_int rfl) n_int) (n_seq (n_frz (n_asg 4 sc__law_take.nd (n_bin op_mod s_mod (n_ixV 0 n_int rfl) (n_var 1))))
    (n_seq (n_setI 0 (n_bin op_fdivW s_fdiv (n_ixV 0 n_int rfl) (n_var 1)) n_int)
    (n_last (n_ret (n_mv 4))))) n_end)
    (n_seq (n_setI 0 (n_bin op_addU s_add (n_ixV 0 n_int rfl) n_int) n_int)
    (n_seq (n_frz (n_asg 2 sc__law_take.nd (n_bin op_mod s_mod (n_bin op_addU s_add (n_bin op_addU s_add (n_bin op_mulU s_mul (n_ixV 0 n_int rfl) n_int) (n_bin op_mulU s_mul n_int (n_ixV 0 n_int rfl))) n_int) n_int)))
    (n_seq (n_frz (n_asg 2 sc__law_take.nd (n_bin op_mod s_mod (n_bin op_pow s_pow (n_var 2) n_int) n_int)))
    (n_seq (n_frz (n_asg 3 sc__law_take.nd (n_bin op_mod s_mod (n_bin op_pow s_pow (n_bin op_addU s_add (n_bin op_addU s_add (n_var 2) (n_bin op_mulU s_mul (n_bin op_mulU s_mul n_int (n_ixV 0 n_int rfl)) (n_ixV 0 n_int rfl))) (n_bin op_mod s_mod (n_ixV 0 n_int rfl) n_int)) n_int) n_int)))
    (n_last (n_ret (n_bin op_mod s_mod (n_bin op_fdivW s_fdiv (n_bin op_mod s_mod (n_bin op_mulU s_mul (n_var 3) n_int) n_int) n_int) (n_var 1)))))))))
theorem cal__law_take (T : Tx w K mg h) : Cal P w K mg base 1 "_law_take" 2 [] (fun vs _ => vs) (spF ⟨K, mg⟩ C0 2 (some 0) f__law_take) := by
  obtain ⟨fd, F⟩ := T.d.def_ 3 (d := dd ("_law_take", none) "_law_take" "_law_take" (topS 5) [] []) rfl
  exact cal_of2 (ps := ["_law_pool_here", "_law_many"]) T.kx T.g (T.fact 3) F (ok__law_take T F) (fun _ _ _ _ _ _ us hl => match us, hl with | [_, _], _ => rfl)
/-! _law_folded -/
theorem sc__law_folded : FnScope ["_law_script", "_law_top", "_law_k"] ["_law_script", "_law_top"] (defScope (topS 6)) := ⟨rfl, rfl, rfl, by decide +kernel, rfl, by decide +kernel, by decide +kernel⟩
noncomputable def E__law_folded_0 : FE.Env → OE := (oCallB sumF2 (oCons (oSl3Q (oVar 0) (oPI (oVar 2)) (oPI (oC (.int 63))) (oPI (oVar 1))) oNil))
theorem u_E__law_folded_0 (env : FE.Env) : E__law_folded_0 env = (oCallB sumF2 (oCons (oSl3Q (oVar 0) (oPI (oVar 2)) (oPI (oC (.int 63))) (oPI (oVar 1))) oNil)) env := (rfl)
noncomputable def C__law_folded_0 : FE.Env → OE := (oLc (iRg1 (oCons (oCallB maxF (oCons (oC (.int 1)) (oCons (oCallB minF (oCons (oVar 1) (oCons (oLenV 0) oNil))) oNil))) oNil)) (gVar 2) oYes E__law_folded_0 [2])
theorem u_C__law_folded_0 (env : FE.Env) : C__law_folded_0 env = (oLc (iRg1 (oCons (oCallB maxF (oCons (oC (.int 1)) (oCons (oCallB minF (oCons (oVar 1) (oCons (oLenV 0) oNil))) oNil))) oNil)) (gVar 2) oYes E__law_folded_0 [2]) env := (rfl)
noncomputable def F__law_folded : FE.Env → OS := (sRet C__law_folded_0)
noncomputable def f__law_folded : List D → OC := runF 3 none F__law_folded
theorem ok__law_folded (T : Tx w K mg h) {fd : FuncData} (F : FunD K "_law_folded" "_law_folded" (defArgs (topS 6)) (defBody (topS 6)) (defScope (topS 6)) [] [] (He.ga K "_law_folded") fd) : FnG P w K mg base 1 (He.ga K "_law_folded") fd ["_law_script", "_law_top"] (spF ⟨K, mg⟩ C0 2 none f__law_folded) := by
  refine fnF F sc__law_folded none (fun cdv A outer s H E F0 as hr hd => ?_)
  exact (n_last (n_ret (n_comp [("_law_k", 2)] sc__law_folded.nd (n_rng1 (T.free fx_range) (n_cons (n_cb (call_maxU rfl) s_max (T.free fx_max) (n_cons n_int (n_cons (n_cb (call_minU rfl) s_min (T.free fx_min) (n_cons (n_var 1) (n_cons (n_lenV 0 (T.free fx_len) rfl) n_nil))) n_nil))) n_nil)) (tg_var 2) (fun s H C cl fp => (pg_name (i := 2) sc__law_folded.nd rfl (by first | exact .inl rfl | exact .inr rfl))) (fun F0 H0 as s H C cl fp => n_yes) (fun F0 H0 as s H C cl fp => (n_cb (cr_sum2 rfl) s_sum2 (T.free fx_sum) (n_cons (n_slice3Q rfl (n_var 0) (n_psome (n_var 2)) (n_psome n_int) (n_psome (n_var 1))) n_nil))))))
theorem cal__law_folded (T : Tx w K mg h) : Cal P w K mg base 1 "_law_folded" 2 [] (fun vs _ => vs) (spF ⟨K, mg⟩ C0 2 none f__law_folded) := by
  obtain ⟨fd, F⟩ := T.d.def_ 4 (d := dd ("_law_folded", none) "_law_folded" "_law_folded" (topS 6) [] []) rfl
  exact cal_of2 (ps := ["_law_script", "_law_top"]) T.kx T.g (T.fact 4) F (ok__law_folded T F) (fun _ _ _ _ _ _ us hl => match us, hl with | [_, _], _ => rfl)
/-! _law_worth_at -/
theorem sc__law_worth_at : FnScope ["_law_row_here", "_law_values", "_law_found", "_law_at", "_law_value"] ["_law_row_here", "_law_values"] (defScope (topS 11)) := ⟨rfl, rfl, rfl, by decide +kernel, rfl, by decide +kernel, by decide +kernel⟩
noncomputable def S__law_worth_at_0 : FE.Env → OS := (sAsgF 2 (oIxV 0 (oC (.int 0))))
theorem u_S__law_worth_at_0 (env : FE.Env) : S__law_worth_at_0 env = (sAsgF 2 (oIxV 0 (oC (.int 0)))) env := (rfl)
noncomputable def B__law_worth_at_0 : FE.Env → OS := (sAsgF 2 (oOp2 addF (oVar 2) (oOp2 mulF' (oIxV 0 (oOp2 addF (oVar 3) (oC (.int 1)))) (oVar 4))))
theorem u_B__law_worth_at_0 (env : FE.Env) : B__law_worth_at_0 env = (sAsgF 2 (oOp2 addF (oVar 2) (oOp2 mulF' (oIxV 0 (oOp2 addF (oVar 3) (oC (.int 1)))) (oVar 4)))) env := (rfl)
noncomputable def L__law_worth_at_0 : FE.Env → OS := (sFor (iEnq (oCons (oVar 1) oNil)) (gTupF 2 (gConsF (gVar 3) (gConsF (gVar 4) gNilF))) B__law_worth_at_0)
theorem u_L__law_worth_at_0 (env : FE.Env) : L__law_worth_at_0 env = (sFor (iEnq (oCons (oVar 1) oNil)) (gTupF 2 (gConsF (gVar 3) (gConsF (gVar 4) gNilF))) B__law_worth_at_0) env := (rfl)
noncomputable def S__law_worth_at_1 : FE.Env → OS := (sRet (oMv 2))
theorem u_S__law_worth_at_1 (env : FE.Env) : S__law_worth_at_1 env = (sRet (oMv 2)) env := (rfl)
noncomputable def F__law_worth_at : FE.Env → OS := (sSeq S__law_worth_at_0 (sSeq L__law_worth_at_0 S__law_worth_at_1))
noncomputable def f__law_worth_at : List D → OC := runF 5 none F__law_worth_at
theorem ok__law_worth_at (T : Tx w K mg h) {fd : FuncData} (F : FunD K "_law_worth_at" "_law_worth_at" (defArgs (topS 11)) (defBody (topS 11)) (defScope (topS 11)) [] [] (He.ga K "_law_worth_at") fd) : FnG P w K mg base 1 (He.ga K "_law_worth_at") fd ["_law_row_here", "_law_values"] (spF ⟨K, mg⟩ C0 2 none f__law_worth_at) := by
  refine fnF F sc__law_worth_at none (fun cdv A outer s H E F0 as hr hd => ?_)
  exact (n_seq (n_frz (n_asg 2 sc__law_worth_at.nd (n_ixV 0 n_int rfl)))
    (n_seq (n_for (ws := [3, 4]) hd.2 rfl (n_enumq (T.free fx_enumerate) (n_cons (n_var 1) n_nil) rfl) (pg_tup rfl (pgs_cons (pg_name (i := 3) sc__law_worth_at.nd rfl (by first | exact .inl rfl | exact .inr rfl)) (pgs_cons (pg_name (i := 4) sc__law_worth_at.nd rfl (by first | exact .inl rfl | exact .inr rfl)) pgs_nil))) (tg_tup (tgs_cons (tg_var 3) (tgs_cons (tg_var 4) tgs_nil))) (n_last (n_frz (n_asg 2 sc__law_worth_at.nd (n_bin op_addU s_add (n_var 2) (n_bin op_mulU s_mul (n_ixV 0 (n_bin op_addU s_add (n_var 3) n_int) rfl) (n_var 4)))))))
    (n_last (n_ret (n_mv 2)))))
theorem cal__law_worth_at (T : Tx w K mg h) : Cal P w K mg base 1 "_law_worth_at" 2 [] (fun vs _ => vs) (spF ⟨K, mg⟩ C0 2 none f__law_worth_at) := by
  obtain ⟨fd, F⟩ := T.d.def_ 5 (d := dd ("_law_worth_at", none) "_law_worth_at" "_law_worth_at" (topS 11) [] []) rfl
  exact cal_of2 (ps := ["_law_row_here", "_law_values"]) T.kx T.g (T.fact 5) F (ok__law_worth_at T F) (fun _ _ _ _ _ _ us hl => match us, hl with | [_, _], _ => rfl)
/-! _law_great -/
theorem sc__law_great : FnScope ["_law_pool_here", "_law_found", "_law_turn"] ["_law_pool_here"] (defScope (topS 7)) := ⟨rfl, rfl, rfl, by decide +kernel, rfl, by decide +kernel, by decide +kernel⟩
noncomputable def S__law_great_0 : FE.Env → OS := (sAsgF 1 (oC (.int 0)))
theorem u_S__law_great_0 (env : FE.Env) : S__law_great_0 env = (sAsgF 1 (oC (.int 0))) env := (rfl)
noncomputable def B__law_great_0 : FE.Env → OS := (sAsgF 1 (oOp2 addF (oOp2 mulF' (oVar 1) (oOp2 powF (oC (.int 10)) (oC (.int 6)))) (oCallP f__law_take 2 0 (oGs 0 (oGv (oOp2 powF (oC (.int 10)) (oC (.int 6))) oGnil)))))
theorem u_B__law_great_0 (env : FE.Env) : B__law_great_0 env = (sAsgF 1 (oOp2 addF (oOp2 mulF' (oVar 1) (oOp2 powF (oC (.int 10)) (oC (.int 6)))) (oCallP f__law_take 2 0 (oGs 0 (oGv (oOp2 powF (oC (.int 10)) (oC (.int 6))) oGnil))))) env := (rfl)
noncomputable def L__law_great_0 : FE.Env → OS := (sFor (iRg1 (oCons (oC (.int 5)) oNil)) (gVar 2) B__law_great_0)
theorem u_L__law_great_0 (env : FE.Env) : L__law_great_0 env = (sFor (iRg1 (oCons (oC (.int 5)) oNil)) (gVar 2) B__law_great_0) env := (rfl)
noncomputable def S__law_great_1 : FE.Env → OS := (sRet (oMv 1))
theorem u_S__law_great_1 (env : FE.Env) : S__law_great_1 env = (sRet (oMv 1)) env := (rfl)
noncomputable def F__law_great : FE.Env → OS := (sSeq S__law_great_0 (sSeq L__law_great_0 S__law_great_1))
noncomputable def f__law_great : List D → OC := runF 3 (some 0) F__law_great
theorem ok__law_great (T : Tx w K mg h) {fd : FuncData} (F : FunD K "_law_great" "_law_great" (defArgs (topS 7)) (defBody (topS 7)) (defScope (topS 7)) [] [] (He.ga K "_law_great") fd) : FnG P w K mg base 2 (He.ga K "_law_great") fd ["_law_pool_here"] (spF ⟨K, mg⟩ C0 1 (some 0) f__law_great) := by
  refine fnF F sc__law_great (some 0) (fun cdv A outer s H E F0 as hr hd => ?_)
  exact (n_seq (n_frz (n_asg 1 sc__law_great.nd n_int))
    (n_seq (n_for (ws := [2]) hd.2 rfl (n_rng1 (T.free fx_range) (n_cons n_int n_nil)) (pg_name (i := 2) sc__law_great.nd rfl (by first | exact .inl rfl | exact .inr rfl)) (tg_var 2) (n_last (n_frz (n_asg 1 sc__law_great.nd (n_bin op_addU s_add (n_bin op_mulU s_mul (n_var 1) (n_bin op_pow s_pow n_int n_int)) (n_callP (k := 1) ((cal__law_take T).mono (by decide)) hr hd.1 (n_gs 0 (n_gv (n_bin op_pow s_pow n_int n_int) n_gnil))))))))
    (n_last (n_ret (n_mv 1)))))
theorem cal__law_great (T : Tx w K mg h) : Cal P w K mg base 2 "_law_great" 1 [] (fun vs _ => vs) (spF ⟨K, mg⟩ C0 1 (some 0) f__law_great) := by
  obtain ⟨fd, F⟩ := T.d.def_ 6 (d := dd ("_law_great", none) "_law_great" "_law_great" (topS 7) [] []) rfl
  exact cal_of2 (ps := ["_law_pool_here"]) T.kx T.g (T.fact 6) F (ok__law_great T F) (fun _ _ _ _ _ _ us hl => match us, hl with | [_], _ => rfl)
/-! _law_dressed -/
theorem sc__law_dressed : FnScope ["_law_pool_here", "_law_row_here"] ["_law_pool_here", "_law_row_here"] (defScope (topS 10)) := ⟨rfl, rfl, rfl, by decide +kernel, rfl, by decide +kernel, by decide +kernel⟩
noncomputable def F__law_dressed : FE.Env → OS := (sRet (oIf (oTru (oOp2 eqF (oCallP f__law_take 2 0 (oGs 0 (oGv (oC (.int 2)) oGnil))) (oC (.int 0)))) (oCallB tupF (oCons (oVar 1) oNil)) (oCallB lstF (oCons (oVar 1) oNil))))
noncomputable def f__law_dressed : List D → OC := runF 2 (some 0) F__law_dressed
theorem ok__law_dressed (T : Tx w K mg h) {fd : FuncData} (F : FunD K "_law_dressed" "_law_dressed" (defArgs (topS 10)) (defBody (topS 10)) (defScope (topS 10)) [] [] (He.ga K "_law_dressed") fd) : FnG P w K mg base 2 (He.ga K "_law_dressed") fd ["_law_pool_here", "_law_row_here"] (spF ⟨K, mg⟩ C0 2 (some 0) f__law_dressed) := by
  refine fnF F sc__law_dressed (some 0) (fun cdv A outer s H E F0 as hr hd => ?_)
  exact (n_last (n_ret (n_if (n_tcmp (op_eqU (room_64 hr)) s_eq (n_callP (k := 1) ((cal__law_take T).mono (by decide)) hr hd.1 (n_gs 0 (n_gv n_int n_gnil))) n_int) (n_ct call_tupleN s_tup (T.free fx_tuple) (n_cons (n_var 1) n_nil)) (n_ct call_list_of s_lst (T.free fx_list) (n_cons (n_var 1) n_nil)))))
theorem cal__law_dressed (T : Tx w K mg h) : Cal P w K mg base 2 "_law_dressed" 2 [] (fun vs _ => vs) (spF ⟨K, mg⟩ C0 2 (some 0) f__law_dressed) := by
  obtain ⟨fd, F⟩ := T.d.def_ 7 (d := dd ("_law_dressed", none) "_law_dressed" "_law_dressed" (topS 10) [] []) rfl
  exact cal_of2 (ps := ["_law_pool_here", "_law_row_here"]) T.kx T.g (T.fact 7) F (ok__law_dressed T F) (fun _ _ _ _ _ _ us hl => match us, hl with | [_, _], _ => rfl)
/-! _law_number -/
theorem sc__law_number : FnScope ["_law_pool_here", "_law_way"] ["_law_pool_here"] (defScope (topS 8)) := ⟨rfl, rfl, rfl, by decide +kernel, rfl, by decide +kernel, by decide +kernel⟩
noncomputable def S__law_number_0 : FE.Env → OS := (sAsgF 1 (oCallP f__law_take 2 0 (oGs 0 (oGv (oC (.int 4)) oGnil))))
theorem u_S__law_number_0 (env : FE.Env) : S__law_number_0 env = (sAsgF 1 (oCallP f__law_take 2 0 (oGs 0 (oGv (oC (.int 4)) oGnil)))) env := (rfl)
noncomputable def S__law_number_1 : FE.Env → OS := (sIf (oTru (oOp2 eqF (oVar 1) (oC (.int 0)))) (sRet (oC (.int 0))) sPass)
theorem u_S__law_number_1 (env : FE.Env) : S__law_number_1 env = (sIf (oTru (oOp2 eqF (oVar 1) (oC (.int 0)))) (sRet (oC (.int 0))) sPass) env := (rfl)
noncomputable def S__law_number_2 : FE.Env → OS := (sIf (oTru (oOp2 eqF (oVar 1) (oC (.int 3)))) (sRet (oOp2 mulF' (oCallP f__law_great 1 0 (oGs 0 oGnil)) (oOp2 ixF (oLst (oCons (oC (.int 1)) (oCons (oUn negF (oC (.int 1))) oNil))) (oCallP f__law_take 2 0 (oGs 0 (oGv (oC (.int 2)) oGnil)))))) sPass)
theorem u_S__law_number_2 (env : FE.Env) : S__law_number_2 env = (sIf (oTru (oOp2 eqF (oVar 1) (oC (.int 3)))) (sRet (oOp2 mulF' (oCallP f__law_great 1 0 (oGs 0 oGnil)) (oOp2 ixF (oLst (oCons (oC (.int 1)) (oCons (oUn negF (oC (.int 1))) oNil))) (oCallP f__law_take 2 0 (oGs 0 (oGv (oC (.int 2)) oGnil)))))) sPass) env := (rfl)
noncomputable def S__law_number_3 : FE.Env → OS := (sRet (oOp2 mulF' (oOp2 ixF (oLst (oCons (oOp2 addF (oC (.int 1)) (oCallP f__law_take 2 0 (oGs 0 (oGv (oC (.int 9)) oGnil)))) (oCons (oCallP f__law_take 2 0 (oGs 0 (oGv (oC (.int 1000)) oGnil))) oNil))) (oOp2 (iI fun i j => i - j) (oVar 1) (oC (.int 1)))) (oOp2 ixF (oLst (oCons (oC (.int 1)) (oCons (oUn negF (oC (.int 1))) oNil))) (oCallP f__law_take 2 0 (oGs 0 (oGv (oC (.int 2)) oGnil))))))
theorem u_S__law_number_3 (env : FE.Env) : S__law_number_3 env = (sRet (oOp2 mulF' (oOp2 ixF (oLst (oCons (oOp2 addF (oC (.int 1)) (oCallP f__law_take 2 0 (oGs 0 (oGv (oC (.int 9)) oGnil)))) (oCons (oCallP f__law_take 2 0 (oGs 0 (oGv (oC (.int 1000)) oGnil))) oNil))) (oOp2 (iI fun i j => i - j) (oVar 1) (oC (.int 1)))) (oOp2 ixF (oLst (oCons (oC (.int 1)) (oCons (oUn negF (oC (.int 1))) oNil))) (oCallP f__law_take 2 0 (oGs 0 (oGv (oC (.int 2)) oGnil)))))) env := (rfl)
noncomputable def F__law_number : FE.Env → OS := (sSeq S__law_number_0 (sSeq S__law_number_1 (sSeq S__law_number_2 S__law_number_3)))
noncomputable def f__law_number : List D → OC := runF 2 (some 0) F__law_number
theorem ok__law_number (T : Tx w K mg h) {fd : FuncData} (F : FunD K "_law_number" "_law_number" (defArgs (topS 8)) (defBody (topS 8)) (defScope (topS 8)) [] [] (He.ga K "_law_number") fd) : FnG P w K mg base 3 (He.ga K "_law_number") fd ["_law_pool_here"] (spF ⟨K, mg⟩ C0 1 (some 0) f__law_number) := by
  refine fnF F sc__law_number (some 0) (fun cdv A outer s H E F0 as hr hd => ?_)
  exact (n_seq (n_frz (n_asg 1 sc__law_number.nd (n_callP (k := 2) ((cal__law_take T).mono (by decide)) hr hd.1 (n_gs 0 (n_gv n_int n_gnil)))))
    (n_seq (n_ifS (n_tcmp (op_eqU (room_64 hr)) s_eq (n_var 1) n_int) (n_last (n_ret n_int)) n_end)
    (n_seq (n_ifS (n_tcmp (op_eqU (room_64 hr)) s_eq (n_var 1) n_int) (n_last (n_ret (n_bin op_mulU s_mul (n_callP (k := 2) ((cal__law_great T).mono (by decide)) hr hd.1 (n_gs 0 n_gnil)) (n_ix ix_seq s_ix (n_lst (n_cons n_int (n_cons (n_un un_neg s_neg n_int) n_nil))) (n_callP (k := 2) ((cal__law_take T).mono (by decide)) hr hd.1 (n_gs 0 (n_gv n_int n_gnil))))))) n_end)
    (n_last (n_ret (n_bin op_mulU s_mul (n_ix ix_seq s_ix (n_lst (n_cons (n_bin op_addU s_add n_int (n_callP (k := 2) ((cal__law_take T).mono (by decide)) hr hd.1 (n_gs 0 (n_gv n_int n_gnil)))) (n_cons (n_callP (k := 2) ((cal__law_take T).mono (by decide)) hr hd.1 (n_gs 0 (n_gv n_int n_gnil))) n_nil))) (n_bin op_sub s_iI (n_var 1) n_int)) (n_ix ix_seq s_ix (n_lst (n_cons n_int (n_cons (n_un un_neg s_neg n_int) n_nil))) (n_callP (k := 2) ((cal__law_take T).mono (by decide)) hr hd.1 (n_gs 0 (n_gv n_int n_gnil))))))))))
theorem cal__law_number (T : Tx w K mg h) : Cal P w K mg base 3 "_law_number" 1 [] (fun vs _ => vs) (spF ⟨K, mg⟩ C0 1 (some 0) f__law_number) := by
  obtain ⟨fd, F⟩ := T.d.def_ 8 (d := dd ("_law_number", none) "_law_number" "_law_number" (topS 8) [] []) rfl
  exact cal_of2 (ps := ["_law_pool_here"]) T.kx T.g (T.fact 8) F (ok__law_number T F) (fun _ _ _ _ _ _ us hl => match us, hl with | [_], _ => rfl)
/-! _law_row -/
theorem sc__law_row : FnScope ["_law_pool_here", "_law_many", "_law_turn"] ["_law_pool_here", "_law_many"] (defScope (topS 9)) := ⟨rfl, rfl, rfl, by decide +kernel, rfl, by decide +kernel, by decide +kernel⟩
noncomputable def E__law_row_0 : FE.Env → OE := (oCallP f__law_number 1 0 (oGs 0 oGnil))
theorem u_E__law_row_0 (env : FE.Env) : E__law_row_0 env = (oCallP f__law_number 1 0 (oGs 0 oGnil)) env := (rfl)
noncomputable def C__law_row_0 : FE.Env → OE := (oLc (iRg1 (oCons (oVar 1) oNil)) (gVar 2) oYes E__law_row_0 [2])
theorem u_C__law_row_0 (env : FE.Env) : C__law_row_0 env = (oLc (iRg1 (oCons (oVar 1) oNil)) (gVar 2) oYes E__law_row_0 [2]) env := (rfl)
noncomputable def F__law_row : FE.Env → OS := (sRet C__law_row_0)
noncomputable def f__law_row : List D → OC := runF 3 (some 0) F__law_row
theorem ok__law_row (T : Tx w K mg h) {fd : FuncData} (F : FunD K "_law_row" "_law_row" (defArgs (topS 9)) (defBody (topS 9)) (defScope (topS 9)) [] [] (He.ga K "_law_row") fd) : FnG P w K mg base 4 (He.ga K "_law_row") fd ["_law_pool_here", "_law_many"] (spF ⟨K, mg⟩ C0 2 (some 0) f__law_row) := by
  refine fnF F sc__law_row (some 0) (fun cdv A outer s H E F0 as hr hd => ?_)
  exact (n_last (n_ret (n_comp [("_law_turn", 2)] sc__law_row.nd (n_rng1 (T.free fx_range) (n_cons (n_var 1) n_nil)) (tg_var 2) (fun s H C cl fp => (pg_name (i := 2) sc__law_row.nd rfl (by first | exact .inl rfl | exact .inr rfl))) (fun F0 H0 as s H C cl fp => n_yes) (fun F0 H0 as s H C cl fp => (n_callP (k := 3) ((cal__law_number T).mono (by decide)) hr.blk takes0 (n_gs 0 n_gnil))))))
theorem cal__law_row (T : Tx w K mg h) : Cal P w K mg base 4 "_law_row" 2 [] (fun vs _ => vs) (spF ⟨K, mg⟩ C0 2 (some 0) f__law_row) := by
  obtain ⟨fd, F⟩ := T.d.def_ 9 (d := dd ("_law_row", none) "_law_row" "_law_row" (topS 9) [] []) rfl
  exact cal_of2 (ps := ["_law_pool_here", "_law_many"]) T.kx T.g (T.fact 9) F (ok__law_row T F) (fun _ _ _ _ _ _ us hl => match us, hl with | [_, _], _ => rfl)
/-! _law_right -/
theorem sc__law_right : FnScope ["_law_pool_here", "_law_wide", "_law_lines", "_law_times", "_law_values", "_law_due", "_law_at", "_law_worths", "_law_handed", "_law_handed_times", "_law_handed_values", "_law_kept", "_law_told", "_law_worth", "_law_turn", "_law_row_here", "_law_one", "_law_weight"] ["_law_pool_here"] (defScope (topS 12)) := ⟨rfl, rfl, rfl, by decide +kernel, rfl, by decide +kernel, by decide +kernel⟩
noncomputable def S__law_right_0 : FE.Env → OS := (sAsgF 1 (oCallP f__law_take 2 0 (oGs 0 (oGv (oOp2 ixF (oLst (oCons (oC (.int 11)) (oCons (oC (.int 11)) (oCons (oC (.int 21)) oNil)))) (oCallP f__law_take 2 0 (oGs 0 (oGv (oC (.int 3)) oGnil)))) oGnil))))
theorem u_S__law_right_0 (env : FE.Env) : S__law_right_0 env = (sAsgF 1 (oCallP f__law_take 2 0 (oGs 0 (oGv (oOp2 ixF (oLst (oCons (oC (.int 11)) (oCons (oC (.int 11)) (oCons (oC (.int 21)) oNil)))) (oCallP f__law_take 2 0 (oGs 0 (oGv (oC (.int 3)) oGnil)))) oGnil)))) env := (rfl)
noncomputable def E__law_right_0 : FE.Env → OE := (oCallP f__law_row 2 0 (oGs 0 (oGv (oOp2 addF (oVar 1) (oC (.int 1))) oGnil)))
theorem u_E__law_right_0 (env : FE.Env) : E__law_right_0 env = (oCallP f__law_row 2 0 (oGs 0 (oGv (oOp2 addF (oVar 1) (oC (.int 1))) oGnil))) env := (rfl)
noncomputable def C__law_right_0 : FE.Env → OE := (oLc (iRg1 (oCons (oCallP f__law_take 2 0 (oGs 0 (oGv (oOp2 ixF (oLst (oCons (oC (.int 7)) (oCons (oC (.int 7)) (oCons (oC (.int 7)) (oCons (oC (.int 25)) oNil))))) (oCallP f__law_take 2 0 (oGs 0 (oGv (oC (.int 4)) oGnil)))) oGnil))) oNil)) (gVar 14) oYes E__law_right_0 [14])
theorem u_C__law_right_0 (env : FE.Env) : C__law_right_0 env = (oLc (iRg1 (oCons (oCallP f__law_take 2 0 (oGs 0 (oGv (oOp2 ixF (oLst (oCons (oC (.int 7)) (oCons (oC (.int 7)) (oCons (oC (.int 7)) (oCons (oC (.int 25)) oNil))))) (oCallP f__law_take 2 0 (oGs 0 (oGv (oC (.int 4)) oGnil)))) oGnil))) oNil)) (gVar 14) oYes E__law_right_0 [14]) env := (rfl)
noncomputable def S__law_right_1 : FE.Env → OS := (sAsgF 2 C__law_right_0)
theorem u_S__law_right_1 (env : FE.Env) : S__law_right_1 env = (sAsgF 2 C__law_right_0) env := (rfl)
noncomputable def S__law_right_2 : FE.Env → OS := (sAsgF 3 (oCallP f__law_row 2 0 (oGs 0 (oGv (oLenV 2) oGnil))))
theorem u_S__law_right_2 (env : FE.Env) : S__law_right_2 env = (sAsgF 3 (oCallP f__law_row 2 0 (oGs 0 (oGv (oLenV 2) oGnil)))) env := (rfl)
noncomputable def S__law_right_3 : FE.Env → OS := (sAsgF 4 (oCallP f__law_row 2 0 (oGs 0 (oGv (oVar 1) oGnil))))
theorem u_S__law_right_3 (env : FE.Env) : S__law_right_3 env = (sAsgF 4 (oCallP f__law_row 2 0 (oGs 0 (oGv (oVar 1) oGnil)))) env := (rfl)
noncomputable def S__law_right_4 : FE.Env → OS := (sAsg 5 (oLst oNil))
theorem u_S__law_right_4 (env : FE.Env) : S__law_right_4 env = (sAsg 5 (oLst oNil)) env := (rfl)
noncomputable def E__law_right_1 : FE.Env → OE := (oOp2 mulF' (oVar 17) (oIxV 15 (oVar 6)))
theorem u_E__law_right_1 (env : FE.Env) : E__law_right_1 env = (oOp2 mulF' (oVar 17) (oIxV 15 (oVar 6))) env := (rfl)
noncomputable def C__law_right_1 : FE.Env → OE := (oLc (iZq (oCons (oVar 2) (oCons (oVar 3) oNil))) (gTupF 2 (gConsF (gVar 15) (gConsF (gVar 17) gNilF))) oYes E__law_right_1 [15, 17])
theorem u_C__law_right_1 (env : FE.Env) : C__law_right_1 env = (oLc (iZq (oCons (oVar 2) (oCons (oVar 3) oNil))) (gTupF 2 (gConsF (gVar 15) (gConsF (gVar 17) gNilF))) oYes E__law_right_1 [15, 17]) env := (rfl)
noncomputable def B__law_right_0 : FE.Env → OS := (sApp 5 (oCallB sumF2 (oCons C__law_right_1 oNil)))
theorem u_B__law_right_0 (env : FE.Env) : B__law_right_0 env = (sApp 5 (oCallB sumF2 (oCons C__law_right_1 oNil))) env := (rfl)
noncomputable def L__law_right_0 : FE.Env → OS := (sFor (iRg1 (oCons (oOp2 addF (oVar 1) (oC (.int 1))) oNil)) (gVar 6) B__law_right_0)
theorem u_L__law_right_0 (env : FE.Env) : L__law_right_0 env = (sFor (iRg1 (oCons (oOp2 addF (oVar 1) (oC (.int 1))) oNil)) (gVar 6) B__law_right_0) env := (rfl)
noncomputable def E__law_right_2 : FE.Env → OE := (oCall f__law_worth_at 2 0 (fun ds _ => ds) (oCons (oVar 15) (oCons (oVar 4) oNil)) oNil)
theorem u_E__law_right_2 (env : FE.Env) : E__law_right_2 env = (oCall f__law_worth_at 2 0 (fun ds _ => ds) (oCons (oVar 15) (oCons (oVar 4) oNil)) oNil) env := (rfl)
noncomputable def C__law_right_2 : FE.Env → OE := (oLc (iVal (oVar 2)) (gVar 15) oYes E__law_right_2 [15])
theorem u_C__law_right_2 (env : FE.Env) : C__law_right_2 env = (oLc (iVal (oVar 2)) (gVar 15) oYes E__law_right_2 [15]) env := (rfl)
noncomputable def S__law_right_5 : FE.Env → OS := (sAsgF 7 C__law_right_2)
theorem u_S__law_right_5 (env : FE.Env) : S__law_right_5 env = (sAsgF 7 C__law_right_2) env := (rfl)
noncomputable def E__law_right_3 : FE.Env → OE := (oCallP f__law_dressed 2 0 (oGs 0 (oGv (oVar 15) oGnil)))
theorem u_E__law_right_3 (env : FE.Env) : E__law_right_3 env = (oCallP f__law_dressed 2 0 (oGs 0 (oGv (oVar 15) oGnil))) env := (rfl)
noncomputable def C__law_right_3 : FE.Env → OE := (oLc (iVal (oVar 2)) (gVar 15) oYes E__law_right_3 [15])
theorem u_C__law_right_3 (env : FE.Env) : C__law_right_3 env = (oLc (iVal (oVar 2)) (gVar 15) oYes E__law_right_3 [15]) env := (rfl)
noncomputable def S__law_right_6 : FE.Env → OS := (sAsgF 8 (oCallP f__law_dressed 2 0 (oGs 0 (oGv C__law_right_3 oGnil))))
theorem u_S__law_right_6 (env : FE.Env) : S__law_right_6 env = (sAsgF 8 (oCallP f__law_dressed 2 0 (oGs 0 (oGv C__law_right_3 oGnil)))) env := (rfl)
noncomputable def S__law_right_7 : FE.Env → OS := (sAsgT (gTupF 2 (gConsF (gVar 9) (gConsF (gVar 10) gNilF))) (oTup (oCons (oCallP f__law_dressed 2 0 (oGs 0 (oGv (oVar 3) oGnil))) (oCons (oCallP f__law_dressed 2 0 (oGs 0 (oGv (oVar 4) oGnil))) oNil))))
theorem u_S__law_right_7 (env : FE.Env) : S__law_right_7 env = (sAsgT (gTupF 2 (gConsF (gVar 9) (gConsF (gVar 10) gNilF))) (oTup (oCons (oCallP f__law_dressed 2 0 (oGs 0 (oGv (oVar 3) oGnil))) (oCons (oCallP f__law_dressed 2 0 (oGs 0 (oGv (oVar 4) oGnil))) oNil)))) env := (rfl)
noncomputable def S__law_right_8 : FE.Env → OS := (sAsgF 11 (oCallB reprF (oCons (oTup (oCons (oVar 8) (oCons (oVar 9) (oCons (oVar 10) oNil)))) oNil)))
theorem u_S__law_right_8 (env : FE.Env) : S__law_right_8 env = (sAsgF 11 (oCallB reprF (oCons (oTup (oCons (oVar 8) (oCons (oVar 9) (oCons (oVar 10) oNil)))) oNil))) env := (rfl)
noncomputable def S__law_right_9 : FE.Env → OS := (sAsgF 12 (oCall f_added 2 1 (fun ds es => ds ++ es) (oCons (oVar 8) (oCons (oVar 9) oNil)) (oCons (oVar 1) oNil)))
theorem u_S__law_right_9 (env : FE.Env) : S__law_right_9 env = (sAsgF 12 (oCall f_added 2 1 (fun ds es => ds ++ es) (oCons (oVar 8) (oCons (oVar 9) oNil)) (oCons (oVar 1) oNil))) env := (rfl)
noncomputable def S__law_right_10 : FE.Env → OS := (sIf (oTru (oOp2 neF (oCallB reprF (oCons (oVar 12) oNil)) (oCallB reprF (oCons (oCallB tupF (oCons (oVar 5) oNil)) oNil)))) (sRet (oC (.bl false))) sPass)
theorem u_S__law_right_10 (env : FE.Env) : S__law_right_10 env = (sIf (oTru (oOp2 neF (oCallB reprF (oCons (oVar 12) oNil)) (oCallB reprF (oCons (oCallB tupF (oCons (oVar 5) oNil)) oNil)))) (sRet (oC (.bl false))) sPass) env := (rfl)
noncomputable def E__law_right_4 : FE.Env → OE := (oCall f_row_worth 2 0 (fun ds _ => ds) (oCons (oVar 15) (oCons (oVar 10) oNil)) oNil)
theorem u_E__law_right_4 (env : FE.Env) : E__law_right_4 env = (oCall f_row_worth 2 0 (fun ds _ => ds) (oCons (oVar 15) (oCons (oVar 10) oNil)) oNil) env := (rfl)
noncomputable def C__law_right_4 : FE.Env → OE := (oLc (iVal (oVar 8)) (gVar 15) oYes E__law_right_4 [15])
theorem u_C__law_right_4 (env : FE.Env) : C__law_right_4 env = (oLc (iVal (oVar 8)) (gVar 15) oYes E__law_right_4 [15]) env := (rfl)
noncomputable def S__law_right_11 : FE.Env → OS := (sIf (oTru (oOp2 neF (oCallB reprF (oCons C__law_right_4 oNil)) (oCallB reprF (oCons (oVar 7) oNil)))) (sRet (oC (.bl false))) sPass)
theorem u_S__law_right_11 (env : FE.Env) : S__law_right_11 env = (sIf (oTru (oOp2 neF (oCallB reprF (oCons C__law_right_4 oNil)) (oCallB reprF (oCons (oVar 7) oNil)))) (sRet (oC (.bl false))) sPass) env := (rfl)
noncomputable def E__law_right_5 : FE.Env → OE := (oOp2 mulF' (oVar 16) (oVar 17))
theorem u_E__law_right_5 (env : FE.Env) : E__law_right_5 env = (oOp2 mulF' (oVar 16) (oVar 17)) env := (rfl)
noncomputable def C__law_right_5 : FE.Env → OE := (oLc (iZq (oCons (oVar 7) (oCons (oVar 3) oNil))) (gTupF 2 (gConsF (gVar 16) (gConsF (gVar 17) gNilF))) oYes E__law_right_5 [16, 17])
theorem u_C__law_right_5 (env : FE.Env) : C__law_right_5 env = (oLc (iZq (oCons (oVar 7) (oCons (oVar 3) oNil))) (gTupF 2 (gConsF (gVar 16) (gConsF (gVar 17) gNilF))) oYes E__law_right_5 [16, 17]) env := (rfl)
noncomputable def S__law_right_12 : FE.Env → OS := (sAsgF 13 (oCallB sumF2 (oCons C__law_right_5 oNil)))
theorem u_S__law_right_12 (env : FE.Env) : S__law_right_12 env = (sAsgF 13 (oCallB sumF2 (oCons C__law_right_5 oNil))) env := (rfl)
noncomputable def S__law_right_13 : FE.Env → OS := (sIf (oTru (oOp2 neF (oCallB reprF (oCons (oCall f_row_worth 2 0 (fun ds _ => ds) (oCons (oVar 12) (oCons (oVar 10) oNil)) oNil) oNil)) (oCallB reprF (oCons (oVar 13) oNil)))) (sRet (oC (.bl false))) sPass)
theorem u_S__law_right_13 (env : FE.Env) : S__law_right_13 env = (sIf (oTru (oOp2 neF (oCallB reprF (oCons (oCall f_row_worth 2 0 (fun ds _ => ds) (oCons (oVar 12) (oCons (oVar 10) oNil)) oNil) oNil)) (oCallB reprF (oCons (oVar 13) oNil)))) (sRet (oC (.bl false))) sPass) env := (rfl)
noncomputable def S__law_right_14 : FE.Env → OS := (sIf (oTru (oOp2 neF (oCallB reprF (oCons (oCall f_row_worth 2 0 (fun ds _ => ds) (oCons (oCallB lstF (oCons (oVar 5) oNil)) (oCons (oCallB tupF (oCons (oVar 4) oNil)) oNil)) oNil) oNil)) (oCallB reprF (oCons (oVar 13) oNil)))) (sRet (oC (.bl false))) sPass)
theorem u_S__law_right_14 (env : FE.Env) : S__law_right_14 env = (sIf (oTru (oOp2 neF (oCallB reprF (oCons (oCall f_row_worth 2 0 (fun ds _ => ds) (oCons (oCallB lstF (oCons (oVar 5) oNil)) (oCons (oCallB tupF (oCons (oVar 4) oNil)) oNil)) oNil) oNil)) (oCallB reprF (oCons (oVar 13) oNil)))) (sRet (oC (.bl false))) sPass) env := (rfl)
noncomputable def S__law_right_15 : FE.Env → OS := (sIf (oTru (oOp2 neF (oCallB reprF (oCons (oCall0 f_added 3 (oCons (oCallB tupF (oCons (oVar 2) oNil)) (oCons (oCallB tupF (oCons (oVar 3) oNil)) (oCons (oVar 1) oNil)))) oNil)) (oCallB reprF (oCons (oCallB tupF (oCons (oVar 5) oNil)) oNil)))) (sRet (oC (.bl false))) sPass)
theorem u_S__law_right_15 (env : FE.Env) : S__law_right_15 env = (sIf (oTru (oOp2 neF (oCallB reprF (oCons (oCall0 f_added 3 (oCons (oCallB tupF (oCons (oVar 2) oNil)) (oCons (oCallB tupF (oCons (oVar 3) oNil)) (oCons (oVar 1) oNil)))) oNil)) (oCallB reprF (oCons (oCallB tupF (oCons (oVar 5) oNil)) oNil)))) (sRet (oC (.bl false))) sPass) env := (rfl)
noncomputable def S__law_right_16 : FE.Env → OS := (sRet (oOp2 eqF (oCallB reprF (oCons (oTup (oCons (oVar 8) (oCons (oVar 9) (oCons (oVar 10) oNil)))) oNil)) (oVar 11)))
theorem u_S__law_right_16 (env : FE.Env) : S__law_right_16 env = (sRet (oOp2 eqF (oCallB reprF (oCons (oTup (oCons (oVar 8) (oCons (oVar 9) (oCons (oVar 10) oNil)))) oNil)) (oVar 11))) env := (rfl)
noncomputable def F__law_right : FE.Env → OS := (sSeq S__law_right_0 (sSeq S__law_right_1 (sSeq S__law_right_2 (sSeq S__law_right_3 (sSeq S__law_right_4 (sSeq L__law_right_0 (sSeq S__law_right_5 (sSeq S__law_right_6 (sSeq S__law_right_7 (sSeq S__law_right_8 (sSeq S__law_right_9 (sSeq S__law_right_10 (sSeq S__law_right_11 (sSeq S__law_right_12 (sSeq S__law_right_13 (sSeq S__law_right_14 (sSeq S__law_right_15 S__law_right_16)))))))))))))))))
noncomputable def f__law_right : List D → OC := runF 18 (some 0) F__law_right
theorem ok__law_right (T : Tx w K mg h) {fd : FuncData} (F : FunD K "_law_right" "_law_right" (defArgs (topS 12)) (defBody (topS 12)) (defScope (topS 12)) [] [] (He.ga K "_law_right") fd) : FnG P w K mg base 5 (He.ga K "_law_right") fd ["_law_pool_here"] (spF ⟨K, mg⟩ C0 1 (some 0) f__law_right) := by
  refine fnF F sc__law_right (some 0) (fun cdv A outer s H E F0 as hr hd => ?_)
  exact (n_seq (n_frz (n_asg 1 sc__law_right.nd (n_callP (k := 4) ((cal__law_take T).mono (by decide)) hr hd.1 (n_gs 0 (n_gv (n_ix ix_seq s_ix (n_lst (n_cons n_int (n_cons n_int (n_cons n_int n_nil)))) (n_callP (k := 4) ((cal__law_take T).mono (by decide)) hr hd.1 (n_gs 0 (n_gv n_int n_gnil)))) n_gnil)))))
    (n_seq (n_frz (n_asgComp 2 [("_law_turn", 14)] sc__law_right.nd (n_rng1 (T.free fx_range) (n_cons (n_callP (k := 4) ((cal__law_take T).mono (by decide)) hr hd.1 (n_gs 0 (n_gv (n_ix ix_seq s_ix (n_lst (n_cons n_int (n_cons n_int (n_cons n_int (n_cons n_int n_nil))))) (n_callP (k := 4) ((cal__law_take T).mono (by decide)) hr hd.1 (n_gs 0 (n_gv n_int n_gnil)))) n_gnil))) n_nil)) (tg_var 14) (fun s H C cl fp => (pg_name (i := 14) sc__law_right.nd rfl (by first | exact .inl rfl | exact .inr rfl))) (fun F0 H0 as s H C cl fp => n_yes) (fun F0 H0 as s H C cl fp => (n_callP (k := 4) ((cal__law_row T).mono (by decide)) hr.blk takes0 (n_gs 0 (n_gv (n_bin op_addU s_add (n_var 1) n_int) n_gnil))))))
    (n_seq (n_frz (n_asg 3 sc__law_right.nd (n_callP (k := 4) ((cal__law_row T).mono (by decide)) hr hd.1 (n_gs 0 (n_gv (n_lenV 2 (T.free fx_len) rfl) n_gnil)))))
    (n_seq (n_frz (n_asg 4 sc__law_right.nd (n_callP (k := 4) ((cal__law_row T).mono (by decide)) hr hd.1 (n_gs 0 (n_gv (n_var 1) n_gnil)))))
    (n_seq (n_asg 5 sc__law_right.nd (n_lst n_nil))
    (n_seq (n_for (ws := [6]) hd.2 rfl (n_rng1 (T.free fx_range) (n_cons (n_bin op_addU s_add (n_var 1) n_int) n_nil)) (pg_name (i := 6) sc__law_right.nd rfl (by first | exact .inl rfl | exact .inr rfl)) (tg_var 6) (n_last (n_app 5 (n_cb (cr_sum2 rfl) s_sum2 (T.free fx_sum) (n_cons (n_comp [("_law_row_here", 15), ("_law_weight", 17)] sc__law_right.nd (n_zipq (T.free fx_zip) rfl (n_cons (n_var 2) (n_cons (n_var 3) n_nil))) (tg_tup (tgs_cons (tg_var 15) (tgs_cons (tg_var 17) tgs_nil))) (fun s H C cl fp => (pg_tup rfl (pgs_cons (pg_name (i := 15) sc__law_right.nd rfl (by first | exact .inl rfl | exact .inr rfl)) (pgs_cons (pg_name (i := 17) sc__law_right.nd rfl (by first | exact .inl rfl | exact .inr rfl)) pgs_nil)))) (fun F0 H0 as s H C cl fp => n_yes) (fun F0 H0 as s H C cl fp => (n_bin op_mulU s_mul (n_var 17) (n_ixV 15 (n_var 6) rfl)))) n_nil)))))
    (n_seq (n_frz (n_asgComp 7 [("_law_row_here", 15)] sc__law_right.nd (n_iter (n_var 2) rfl) (tg_var 15) (fun s H C cl fp => (pg_name (i := 15) sc__law_right.nd rfl (by first | exact .inl rfl | exact .inr rfl))) (fun F0 H0 as s H C cl fp => n_yes) (fun F0 H0 as s H C cl fp => (n_call (ks := []) (k := 4) ((cal__law_worth_at T).mono (by decide)) hr.blk takes0 (grel_all 2) (n_cons (n_var 15) (n_cons (n_var 4) n_nil)) n_knil))))
    (n_seq (n_frz (n_asg 8 sc__law_right.nd (n_callP (k := 4) ((cal__law_dressed T).mono (by decide)) hr hd.1 (n_gs 0 (n_gv (n_comp [("_law_row_here", 15)] sc__law_right.nd (n_iter (n_var 2) rfl) (tg_var 15) (fun s H C cl fp => (pg_name (i := 15) sc__law_right.nd rfl (by first | exact .inl rfl | exact .inr rfl))) (fun F0 H0 as s H C cl fp => n_yes) (fun F0 H0 as s H C cl fp => (n_callP (k := 4) ((cal__law_dressed T).mono (by decide)) hr.blk takes0 (n_gs 0 (n_gv (n_var 15) n_gnil))))) n_gnil)))))
    (n_seq (n_asgT [9, 10] (n_tup (n_cons (n_callP (k := 4) ((cal__law_dressed T).mono (by decide)) hr hd.1 (n_gs 0 (n_gv (n_var 3) n_gnil))) (n_cons (n_callP (k := 4) ((cal__law_dressed T).mono (by decide)) hr hd.1 (n_gs 0 (n_gv (n_var 4) n_gnil))) n_nil))) (pg_tup rfl (pgs_cons (pg_name (i := 9) sc__law_right.nd rfl (by first | exact .inl rfl | exact .inr rfl)) (pgs_cons (pg_name (i := 10) sc__law_right.nd rfl (by first | exact .inl rfl | exact .inr rfl)) pgs_nil))) (tg_tup (tgs_cons (tg_var 9) (tgs_cons (tg_var 10) tgs_nil))))
    (n_seq (n_frz (n_asg 11 sc__law_right.nd (n_cb (call_reprU (room_u hr) hr.g) s_repr (T.free fx_repr) (n_cons (n_tup (n_cons (n_var 8) (n_cons (n_var 9) (n_cons (n_var 10) n_nil)))) n_nil))))
    (n_seq (n_frz (n_asg 12 sc__law_right.nd (n_call (ks := ["width"]) (k := 4) ((calk_added T).mono (by decide)) hr hd.1 (grel_kw 2 1) (n_cons (n_var 8) (n_cons (n_var 9) n_nil)) (n_kcons (n_var 1) n_knil))))
    (n_seq (n_ifS (n_tcmp (op_neU (room_64 hr)) s_ne (n_cb (call_reprU (room_u hr) hr.g) s_repr (T.free fx_repr) (n_cons (n_var 12) n_nil)) (n_cb (call_reprU (room_u hr) hr.g) s_repr (T.free fx_repr) (n_cons (n_ct call_tupleN s_tup (T.free fx_tuple) (n_cons (n_var 5) n_nil)) n_nil))) (n_last (n_ret n_bl)) n_end)
    (n_seq (n_ifS (n_tcmp (op_neU (room_64 hr)) s_ne (n_cb (call_reprU (room_u hr) hr.g) s_repr (T.free fx_repr) (n_cons (n_comp [("_law_row_here", 15)] sc__law_right.nd (n_iter (n_var 8) rfl) (tg_var 15) (fun s H C cl fp => (pg_name (i := 15) sc__law_right.nd rfl (by first | exact .inl rfl | exact .inr rfl))) (fun F0 H0 as s H C cl fp => n_yes) (fun F0 H0 as s H C cl fp => (n_call (ks := []) (k := 4) ((cal_row_worth T).mono (by decide)) hr.blk takes0 (grel_all 2) (n_cons (n_var 15) (n_cons (n_var 10) n_nil)) n_knil))) n_nil)) (n_cb (call_reprU (room_u hr) hr.g) s_repr (T.free fx_repr) (n_cons (n_var 7) n_nil))) (n_last (n_ret n_bl)) n_end)
    (n_seq (n_frz (n_asg 13 sc__law_right.nd (n_cb (cr_sum2 rfl) s_sum2 (T.free fx_sum) (n_cons (n_comp [("_law_one", 16), ("_law_weight", 17)] sc__law_right.nd (n_zipq (T.free fx_zip) rfl (n_cons (n_var 7) (n_cons (n_var 3) n_nil))) (tg_tup (tgs_cons (tg_var 16) (tgs_cons (tg_var 17) tgs_nil))) (fun s H C cl fp => (pg_tup rfl (pgs_cons (pg_name (i := 16) sc__law_right.nd rfl (by first | exact .inl rfl | exact .inr rfl)) (pgs_cons (pg_name (i := 17) sc__law_right.nd rfl (by first | exact .inl rfl | exact .inr rfl)) pgs_nil)))) (fun F0 H0 as s H C cl fp => n_yes) (fun F0 H0 as s H C cl fp => (n_bin op_mulU s_mul (n_var 16) (n_var 17)))) n_nil))))
    (n_seq (n_ifS (n_tcmp (op_neU (room_64 hr)) s_ne (n_cb (call_reprU (room_u hr) hr.g) s_repr (T.free fx_repr) (n_cons (n_call (ks := []) (k := 4) ((cal_row_worth T).mono (by decide)) hr hd.1 (grel_all 2) (n_cons (n_var 12) (n_cons (n_var 10) n_nil)) n_knil) n_nil)) (n_cb (call_reprU (room_u hr) hr.g) s_repr (T.free fx_repr) (n_cons (n_var 13) n_nil))) (n_last (n_ret n_bl)) n_end)
    (n_seq (n_ifS (n_tcmp (op_neU (room_64 hr)) s_ne (n_cb (call_reprU (room_u hr) hr.g) s_repr (T.free fx_repr) (n_cons (n_call (ks := []) (k := 4) ((cal_row_worth T).mono (by decide)) hr hd.1 (grel_all 2) (n_cons (n_ct call_list_of s_lst (T.free fx_list) (n_cons (n_var 5) n_nil)) (n_cons (n_ct call_tupleN s_tup (T.free fx_tuple) (n_cons (n_var 4) n_nil)) n_nil)) n_knil) n_nil)) (n_cb (call_reprU (room_u hr) hr.g) s_repr (T.free fx_repr) (n_cons (n_var 13) n_nil))) (n_last (n_ret n_bl)) n_end)
    (n_seq (n_ifS (n_tcmp (op_neU (room_64 hr)) s_ne (n_cb (call_reprU (room_u hr) hr.g) s_repr (T.free fx_repr) (n_cons (n_call0 (ks := ["rows", "weights", "width"]) (k := 4) ((calz_added T).mono (by decide)) hr hd.1 rfl (n_kcons (n_ct call_tupleN s_tup (T.free fx_tuple) (n_cons (n_var 2) n_nil)) (n_kcons (n_ct call_tupleN s_tup (T.free fx_tuple) (n_cons (n_var 3) n_nil)) (n_kcons (n_var 1) n_knil)))) n_nil)) (n_cb (call_reprU (room_u hr) hr.g) s_repr (T.free fx_repr) (n_cons (n_ct call_tupleN s_tup (T.free fx_tuple) (n_cons (n_var 5) n_nil)) n_nil))) (n_last (n_ret n_bl)) n_end)
    (n_last (n_ret (n_cmp (op_eqU (room_64 hr)) s_eq (n_cb (call_reprU (room_u hr) hr.g) s_repr (T.free fx_repr) (n_cons (n_tup (n_cons (n_var 8) (n_cons (n_var 9) (n_cons (n_var 10) n_nil)))) n_nil)) (n_var 11)))))))))))))))))))))
theorem cal__law_right (T : Tx w K mg h) : Cal P w K mg base 5 "_law_right" 1 [] (fun vs _ => vs) (spF ⟨K, mg⟩ C0 1 (some 0) f__law_right) := by
  obtain ⟨fd, F⟩ := T.d.def_ 10 (d := dd ("_law_right", none) "_law_right" "_law_right" (topS 12) [] []) rfl
  exact cal_of2 (ps := ["_law_pool_here"]) T.kx T.g (T.fact 10) F (ok__law_right T F) (fun _ _ _ _ _ _ us hl => match us, hl with | [_], _ => rfl)
/-! law -/
theorem sc_law : FnScope ["_law_script", "_law_cells", "_law_k"] ["_law_script"] (defScope (topS 13)) := ⟨rfl, rfl, rfl, by decide +kernel, rfl, by decide +kernel, by decide +kernel⟩
noncomputable def E_law_0 : FE.Env → OE := (oCallP f__law_right 1 0 (oGo (oCall f__law_pool 2 0 (fun ds _ => ds) (oCons (oVar 1) (oCons (oVar 2) oNil)) oNil)))
theorem u_E_law_0 (env : FE.Env) : E_law_0 env = (oCallP f__law_right 1 0 (oGo (oCall f__law_pool 2 0 (fun ds _ => ds) (oCons (oVar 1) (oCons (oVar 2) oNil)) oNil))) env := (rfl)
noncomputable def C_law_0 : FE.Env → OE := (oLc (iRg1 (oCons (oLenV 1) oNil)) (gVar 2) oYes E_law_0 [2])
theorem u_C_law_0 (env : FE.Env) : C_law_0 env = (oLc (iRg1 (oCons (oLenV 1) oNil)) (gVar 2) oYes E_law_0 [2]) env := (rfl)
noncomputable def F_law : FE.Env → OS := (sSeq (sAsgF 1 (oCall f__law_folded 2 0 (fun ds _ => ds) (oCons (oVar 0) (oCons (oC (.int 4)) oNil)) oNil)) (sRet (oCallB (bolF fun bs => bs.all id) (oCons C_law_0 oNil))))
noncomputable def f_law : List D → OC := runF 3 none F_law
theorem ok_law (T : Tx w K mg h) {fd : FuncData} (F : FunD K "law" "law" (defArgs (topS 13)) (defBody (topS 13)) (defScope (topS 13)) [] [] (He.ga K "law") fd) : FnG P w K mg base 6 (He.ga K "law") fd ["_law_script"] (spF ⟨K, mg⟩ C0 1 none f_law) := by
  refine fnF F sc_law none (fun cdv A outer s H E F0 as hr hd => ?_)
  exact (n_seq (n_frz (n_asg 1 sc_law.nd (n_call (ks := []) (k := 5) ((cal__law_folded T).mono (by decide)) hr hd.1 (grel_all 2) (n_cons (n_var 0) (n_cons n_int n_nil)) n_knil)))
    (n_last (n_ret (n_cb (cr_all rfl) s_all (T.free fx_all) (n_cons (n_comp [("_law_k", 2)] sc_law.nd (n_rng1 (T.free fx_range) (n_cons (n_lenV 1 (T.free fx_len) rfl) n_nil)) (tg_var 2) (fun s H C cl fp => (pg_name (i := 2) sc_law.nd rfl (by first | exact .inl rfl | exact .inr rfl))) (fun F0 H0 as s H C cl fp => n_yes) (fun F0 H0 as s H C cl fp => (n_callP (k := 5) ((cal__law_right T).mono (by decide)) hr.blk takes0 (n_go (n_call (ks := []) (k := 5) ((cal__law_pool T).mono (by decide)) hr.blk takes0 (grel_all 2) (n_cons (n_var 1) (n_cons (n_var 2) n_nil)) n_knil))))) n_nil)))))
theorem cal_law (T : Tx w K mg h) : Cal P w K mg base 6 "law" 1 [] (fun vs _ => vs) (spF ⟨K, mg⟩ C0 1 none f_law) := by
  obtain ⟨fd, F⟩ := T.d.def_ 11 (d := dd ("law", none) "law" "law" (topS 13) [] []) rfl
  exact cal_of2 (ps := ["_law_script"]) T.kx T.g (T.fact 11) F (ok_law T F) (fun _ _ _ _ _ _ us hl => match us, hl with | [_], _ => rfl)
/-! the head -/
abbrev R : PySem.W.OpenRow := PySem.W.OpenLaw.row Lw
abbrev hk : PySem.W.Hook := He.hookX 4 fa fn [] [] ex
def ob (s : PySem.W.SharedT) : He.AlX := He.obsX 4 fa fn [] [] ex (HandSHeadRun.getT s)
theorem ob_eq (s : PySem.W.SharedT) : ob s = hk.obs s.abs := He.obsX_eq (HandSHeadRun.getT_eq s)
def loose : List PySem.Str := [("row_worth" : PySem.Str), ("added" : PySem.Str), ("_law_pool" : PySem.Str), ("_law_take" : PySem.Str), ("_law_folded" : PySem.Str), ("_law_great" : PySem.Str), ("_law_number" : PySem.Str), ("_law_row" : PySem.Str), ("_law_dressed" : PySem.Str), ("_law_worth_at" : PySem.Str), ("_law_right" : PySem.Str)]
end countfold_k08_rows_worth_and_added

namespace countfold_k08_rows_worth_and_added
open PySem PySem.Spec PyProof.Rows L2 FE
theorem run (w : World) : HandSHeadRun.RunEq R (PySem.W.view R.prog [13]) hk ob 4000 loose w := by
  intro os
  kernel_rfl
end countfold_k08_rows_worth_and_added

namespace countfold_k08_rows_worth_and_added
open PySem PySem.Spec PyProof.Rows L2 FE
local macro_rules
  | `(tactic| simp? only [$ls,*] $[$loc]?) => `(tactic| simp only [e_iEn, e_iEnK, e_enD, e_iZq, e_iZqK, e_zq_ll, e_zq_tt, e_zq_lt, e_zq_tl, e_asgT, e_asgTK, e_asgO, e_call0, List.reverse_cons, List.reverse_nil, e_cmpV, e_cvH, e_cvB, e_cvO, e_cvZ, e_join, e_jK1, e_jK2, e_len_s, e_whK_f, e_whK_t, e_whS, restE, List.getD_cons_zero, List.getD_cons_succ, List.getD_nil, d_pow_6, d_pow_12, d_pow_18, d_pow_30, e_OE_bind_ok, e_OE_bind_exc, e_OE_bindT_ok, e_OE_bindT_exc, e_OE_bindA_ok, e_OE_bindA_exc, e_OE_bindS_ok, e_OE_bindS_exc, e_OE_bindI_ok, e_OE_bindI_exc, e_OE_bindG_ok, e_OE_bindG_exc, e_OT_bind_ok, e_OT_bind_exc, e_OT_bindE_ok, e_OT_bindE_exc, e_OT_bindS_ok, e_OT_bindS_exc, e_OA_bind_ok, e_OA_bind_exc, e_OA_bindE_ok, e_OA_bindE_exc, e_OA_bindI_ok, e_OA_bindI_exc, e_OI_bindE_ok, e_OI_bindE_exc, e_OI_bindS_ok, e_OI_bindS_exc, e_OG_bind_ok, e_OG_bind_exc, e_OG_bindE_ok, e_OG_bindE_exc, e_seq_nx, e_seq_ret, e_seq_brk, e_seq_cnt, e_seq_exc, e_var, e_varK_sh, e_varK_ow, e_mv, e_mvK_sh, e_mvK_ow, e_c, e_okO, e_op2, e_opK1, e_opK2, e_un, e_unK, e_and, e_or, e_not, e_tru, e_andK_t, e_andK_f, e_orK_t, e_orK_f, e_notK, e_truK, e_if, e_tand, e_tor, e_tnot, e_sif, e_ifK_t, e_ifK_f, e_sifK_t, e_sifK_f, e_tandK_t, e_tandK_f, e_torK_t, e_torK_f, e_tnotK, e_nil, e_cons, e_consK1, e_consK2, e_tup, e_lst, e_cb, e_tupK, e_lstK, e_cbK, e_chain, e_chK1, e_chK2, e_chK3, e_chB_t, e_chB_f, e_ixV, e_ixH, e_ixVK, e_ixE_own, e_ixE_sh, e_atO, e_ownAt, e_ownS_ow, e_ownS_io, e_ownS_lst, e_ownS_tup, e_ownS_str, e_ownS_int, e_lenV, e_lenK_own, e_lenK_sh, e_here_no, e_noIo_no, e_Own_no, e_here_sh, e_noIo_sh, e_Own_sh, e_here_ow, e_noIo_ow, e_Own_ow, e_here_io, e_noIo_io, e_Own_io, e_fz_sh, e_fz_ow, e_sv_sh, e_sv_ow, e_ret, e_retK, e_retN, e_expr, e_exprK, e_pass, e_break, e_cont, e_asg, e_asgK, e_asgB, e_sseq, e_set, e_setK1, e_setB, e_setK2, e_setO, e_setJ, e_nxO, e_setOwn, e_soK_ow, e_soK_io, e_app, e_appB, e_appK, e_appO, e_par, e_parA, e_parK, e_okI, e_iVal, e_iValK, e_items_lst, e_items_tup, e_items_str, e_iZp, e_iZpK, e_zp_l, e_zp_t, e_iRv, e_iRvK, e_rv_l, e_rv_t, e_iRg1, e_iRg1K, e_rg1, e_iRg2, e_iRg2K, e_rg2, e_for, e_forK, e_for_nil, e_for_cons, e_forG, e_forS_nx, e_forS_cnt, e_forS_brk, e_forS_ret, e_forS_exc, e_gVar, e_gvB, e_gTup, e_gTupW, e_gCons, e_gNil, d_add_i, d_add_s, d_add_l, d_add_t, d_mul_i, d_mul_s, d_mul_l, d_fdiv, d_mod, d_pow, d_neg, d_iI, d_ord_i, d_ord_s, d_eq_i, d_eq_s, d_ne_i, d_ne_s, d_len_l, d_len_t, d_abs, d_gcd, d_max2, d_min2, d_tup_l, d_tup_t, d_ix_l, d_ix_t, d_atR, at_0, at_1, at_2, ixn_0, ixn_1, ixn_2, e_run, e_fin_ret, e_fin_nx, e_fin_exc, e_outR, e_outX, e_out_none, e_out_some, e_ioS, e_arg_none, e_arg_nil, e_arg_0, e_arg_s, e_ioD, e_call, e_calK1, e_calK2, e_calO_ret, e_calO_exc, e_callP, e_cpK, e_cpD, e_cpC_s, e_cpC_x, e_cpC_o, e_cpS, e_cpX, e_gnil, e_gv, e_gvK1, e_gvK2, e_gs, e_gsB, e_gsK, e_go, e_goK, e_ads_nil, e_ads_cons, e_adC, e_adC2, e_adD_v, e_adD_s, e_adD_o, e_adO, e_pi, e_piK, e_sl, e_slK1, e_slK2, e_slK3, e_slO, e_part_n, e_part_i, d_slice_l, d_slice_t, e_sl3, e_s3K1, e_s3K2, e_s3K3, e_s3K4, e_s3O, e_lc, e_lcK, e_lcB, e_lcR, e_yes, e_okW2, e_okWS_no, e_okWS_sh, eq_self, log_7, List.length_cons, List.length_nil, List.map_cons, List.map_nil, List.cons_append, List.nil_append, List.replicate_succ, List.replicate_zero, List.append_nil, List.getElem?_cons_zero, List.getElem?_cons_succ, List.getElem?_nil, List.set_cons_zero, List.set_cons_succ, Option.bind_some, Option.bind_none, Option.isSome_some, Nat.reduceAdd, Nat.reduceSub, Nat.reduceLT, Nat.reduceLeDiff, Nat.reduceEqDiff, Int.reduceAdd, Int.reduceMul, Int.reduceNeg, Int.reducePow, Int.reduceLT, Int.reduceLE, and_self, and_true, true_and, if_true, if_false, ↓reduceIte, Bool.not_true, Bool.not_false, decide_true, decide_false, decide_eq_true_eq, List.all_cons, List.all_nil, Bool.and_true, Bool.true_and, Bool.and_self, wipeE, adPl, Int.reduceToNat, rng_5, abs_10, e_asf, e_asfK, e_asfB, e_lstF_l, e_lstF_t, e_attr, e_attrK, e_atO2, e_meth, e_methK, e_methB, e_methK3, e_okC_ret, e_okC_exc, e_make, e_mkK1, e_mkK2, e_okJ, e_okJx, e_jSet, e_iniO, e_jEnd, e_jSeq, e_jSeqO, e_jSeqOx, e_flat_no, e_flat_sh, e_cmpR, e_crB, e_crO, e_pop, e_popH, e_popK, e_popA, e_popO, e_popS, e_pop0, e_tupRg, e_tupRgK, e_atD, e_isO, sum2_l, sum2_t, e_jGo, e_lenO, e_lenC, e_tix, e_isT, e_tIxK, e_aug, e_augB, e_augK1, e_augC, e_augL, e_augA, e_augK2, e_augD, e_augO, e_augJ, e_tupRv, e_tRvK, e_gTupW, e_iEnq, e_iEnqK, e_enq_l, e_enq_t, e_truU, e_truUK, e_okT, e_truU_l, e_truU_t, e_truU_b, e_truU_i, e_truU_n, e_truV, e_okTV, e_ext, e_extB, e_extK, e_extO, e_extS, e_seqD_l, e_seqD_t, e_star, e_starK, e_starK1, e_starK2, e_inK, e_ninK, e_call0P, e_pm, List.filterMap_cons, List.filterMap_nil, e_iRg3, e_rg3K, e_sl3Q, e_s3Q1, e_s3Q2, e_s3Q3, e_s3Q4, e_s3Q_l, e_s3Q_t, e_popL2, e_sl3S, e_s3S1, e_s3S2, e_s3S3, e_s3S4, e_s3S_l, e_s3S_t, e_getK, e_getF_s, e_getF_n, e_intB_i, e_intB_b, e_revL, e_revO, e_notU, e_notUK, e_notUO, e_augN, e_augNA, e_augNK, e_augNC, e_augNB, e_lcG, e_lcGK, e_lcGB, e_lcGO, e_lcGR, e_reprV, e_rvO, e_rvR, e_dict1V, e_dvO, e_slV, e_slVH, e_slVK1, e_slVK2, e_slL, e_slE1, e_slE0, e_slS, e_ins, e_insB, e_insK1, e_insK2, e_insD, e_insO, e_lix, e_lixB, e_lixK, e_lixS, e_lixT, e_lnd, e_lndSo, e_lndSs, e_lndK, e_flatO_o, e_flatO_t, e_flatO_b, e_flatO_i, e_ownFl0, e_ownFl1, e_flS_n, e_flS_s, e_flS_o, e_flS_i, fl_ints, e_gop, e_gopK, e_gopO, e_oPn, e_oPv, e_oPc, e_pvS, e_pushD, e_augM, e_aumS, e_aumK, e_aumO, e_lis, e_lisK0, e_lisK1, e_lisK2, e_lisD, e_lisO, u_C_row_worth_0, u_S_added_0, u_C_added_0, u_L_added_0, u_S_added_1, u_S__law_pool_0, u_S__law_pool_1, u_S__law_pool_2, u_S__law_take_0, u_S__law_take_1, u_S__law_take_2, u_S__law_take_3, u_S__law_take_4, u_S__law_take_5, u_C__law_folded_0, u_S__law_worth_at_0, u_L__law_worth_at_0, u_S__law_worth_at_1, u_S__law_great_0, u_L__law_great_0, u_S__law_great_1, u_S__law_number_0, u_S__law_number_1, u_S__law_number_2, u_S__law_number_3, u_C__law_row_0, u_S__law_right_0, u_C__law_right_0, u_S__law_right_1, u_S__law_right_2, u_S__law_right_3, u_S__law_right_4, u_C__law_right_1, u_L__law_right_0, u_C__law_right_2, u_S__law_right_5, u_C__law_right_3, u_S__law_right_6, u_S__law_right_7, u_S__law_right_8, u_S__law_right_9, u_S__law_right_10, u_C__law_right_4, u_S__law_right_11, u_C__law_right_5, u_S__law_right_12, u_S__law_right_13, u_S__law_right_14, u_S__law_right_15, u_S__law_right_16, u_C_law_0, $ls,*] $[$loc]?)
theorem take_ok (a b c m : Int) (ha : 0 ≤ a) (hb : 0 ≤ b) (hb2 : b < 1000000007) (hc : 0 ≤ c) (hc2 : c < 10 ^ 6) (hm : 1 ≤ m) (hm2 : m ≤ 10 ^ 60) :
    ∃ v a' c', f__law_take [.lst [.int a, .int b, .int c], .int m] = .ret (.sh (.int v)) [.int a', .int b, .int c'] ∧ 0 ≤ v ∧ v < m ∧ 0 ≤ a' ∧ 0 ≤ c' ∧ c' ≤ c + 1 := by
  have m0 : 0 < m := by omega
  have m9 : 0 < m ∧ m.natAbs.log2 < 9000 := div_ok m0 (by omega)
  by_cases h : 0 < a
  · refine ⟨a % m, a / m, c, ?_, Int.emod_nonneg _ (by omega), Int.emod_lt_of_pos _ m0, Int.ediv_nonneg ha (by omega), hc, by omega⟩
    simp? only [f__law_take, F__law_take, h, m0, m9]
  · have q1 := mul_le_big (i := 69621) (j := c + 1) (a := 69621) (b := 10 ^ 6) (by omega) (by omega) (by omega) (by omega)
    have q2 := mul_le_big (i := 69621 * (c + 1)) (j := c + 1) (a := 69621 * 10 ^ 6) (b := 10 ^ 6) (by omega) (by omega) (by omega) (by omega)
    suffices g : ∃ v, f__law_take [.lst [.int a, .int b, .int c], .int m] = .ret (.sh (.int (v % m))) [.int a, .int b, .int (c + 1)] by
      obtain ⟨v, g⟩ := g
      exact ⟨v % m, a, c + 1, g, Int.emod_nonneg _ (by omega), Int.emod_lt_of_pos _ m0, ha, by omega, by omega⟩
    simp? only [f__law_take, F__law_take, h, m0, m9]
    rw [if_pos (mul_ok (by omega) (by omega) (by omega) (by omega))]
    simp? only [h, m0, m9]
    rw [if_pos (mul_ok (by omega) (by omega) (by omega) (by omega))]
    simp? only [h, m0, m9]
    rw [if_pos (pow_ok' (by omega) (by omega))]
    simp? only [h, m0, m9]
    rw [if_pos (mul_ok (by omega) (by omega) (by omega) (by omega))]
    simp? only [h, m0, m9]
    rw [if_pos (mul_ok (by omega) (by omega) (by omega) (by omega))]
    simp? only [h, m0, m9]
    rw [if_pos (pow_ok' (by omega) (by omega))]
    simp? only [h, m0, m9]
    rw [if_pos (mul_ok (by omega) (by omega) (by omega) (by omega))]
    simp? only [h, m0, m9, log_64]
    exact ⟨_, rfl⟩
/-- the pool: three numbers, the last one at most n -/
def Pk (n : Int) (p : List D) : Prop := ∃ a b c : Int, p = [.int a, .int b, .int c] ∧ 0 ≤ a ∧ 0 ≤ b ∧ b < 1000000007 ∧ 0 ≤ c ∧ c ≤ n
theorem Pk.mono {n m : Int} {p : List D} (h : Pk n p) (l : n ≤ m) : Pk m p := by
  obtain ⟨a, b, c, rfl, h1, h2, h3, h4, h5⟩ := h
  exact ⟨a, b, c, rfl, h1, h2, h3, h4, by omega⟩
theorem take_p {n m : Int} {p : List D} (h : Pk n p) (hn : n < 10 ^ 6) (hm : 1 ≤ m) (hm2 : m ≤ 10 ^ 60) : ∃ v p', f__law_take [.lst p, .int m] = .ret (.sh (.int v)) p' ∧ 0 ≤ v ∧ v < m ∧ Pk (n + 1) p' := by
  obtain ⟨a, b, c, rfl, h1, h2, h3, h4, h5⟩ := h
  obtain ⟨v, a', c', e, k1, k2, k3, k4, k5⟩ := take_ok a b c m h1 h2 h3 h4 (by omega) hm hm2
  exact ⟨v, _, e, k1, k2, a', b, c', rfl, k3, h2, h3, k4, by omega⟩
theorem pool_p (cs : List Int) (k : Nat) (hk : k < 64) : ∃ p, f__law_pool [.lst (intsL cs), .int (k : Int)] = .ret (.ow p) [] ∧ Pk (500000) p := by
  have hm : ∀ x : Int, ∃ p, (∃ y, p = [.int (mx 0 (x - 1000000000000000000)), .int (x % 1000000007), .int y] ∧ y = 7919 * (k : Int) + 1) ∧ Pk (500000) p := fun x => ⟨_, ⟨_, rfl, rfl⟩, _, _, _, rfl, by unfold mx; split <;> omega, by omega, by omega, by omega, by omega⟩
  by_cases h : (k : Int) < (cs.length : Int)
  · have hc : k < cs.length := by omega
    obtain ⟨p, ⟨y, rfl, rfl⟩, hp⟩ := hm cs[k]
    refine ⟨_, ?_, hp⟩
    have e : L2.atI (intsL cs) (k : Int) = some (.int cs[k]) := by
      unfold L2.atI L2.ixN intsL
      rw [if_pos (by omega), if_pos (by rw [List.length_map]; omega)]
      show (cs.map D.int)[(k : Int).toNat]? = _
      rw [Int.toNat_natCast, List.getElem?_map, List.getElem?_eq_getElem hc]
      rfl
    have hl : ((intsL cs).length : Int) = cs.length := by unfold intsL; rw [List.length_map]
    simp? only [f__law_pool, F__law_pool, h, e, hl]
    rw [if_pos (mul_ok (by omega) (by omega) (by omega) (by omega))]
    simp? only []
  · obtain ⟨p, ⟨y, rfl, rfl⟩, hp⟩ := hm 0
    refine ⟨_, ?_, hp⟩
    have hl : ((intsL cs).length : Int) = cs.length := by unfold intsL; rw [List.length_map]
    simp? only [f__law_pool, F__law_pool, h, hl]
    rw [if_pos (mul_ok (by omega) (by omega) (by omega) (by omega))]
    simp? only []
theorem folded_p (ns : List Int) (hl : ns.length ≤ 63) : ∃ cs : List Int, f__law_folded [.lst (intsL ns), .int 4] = .ret (.ow (intsL cs)) [] ∧ 1 ≤ cs.length ∧ cs.length ≤ 4 := by
  have hlen : ((intsL ns).length : Int) = ns.length := by unfold intsL; rw [List.length_map]
  have hb : 1 ≤ mx 1 (mn 4 (ns.length : Int)) ∧ mx 1 (mn 4 (ns.length : Int)) ≤ 4 := by
    unfold mx mn
    repeat' split
    all_goals omega
  simp? only [f__law_folded, F__law_folded, hlen]
  rw [if_pos (by omega)]
  generalize hm : (mx 1 (mn 4 (ns.length : Int))).toNat = m
  have hm8 : 1 ≤ m ∧ m ≤ 4 := by omega
  obtain ⟨rs, env', q1, q2, q3⟩ := lcL_inv (f := gVar 2) (ot := oYes) (oe := E__law_folded_0) (ws := [2]) (fun _ e => e = [SV.sh (D.lst (intsL ns)), SV.sh (D.int 4), SV.no]) (fun _ r => ∃ i : Int, r = .int i) (rngD 0 m) 0 [SV.sh (D.lst (intsL ns)), SV.sh (D.int 4), SV.no] [] (by rw [rng_len, List.length_nil]; omega) rfl (by
    rintro k d env _ _ hd rfl
    obtain ⟨j, hj⟩ : ∃ j, d = .int j := by
      obtain ⟨i, hi⟩ := List.getElem?_of_mem hd
      exact ⟨_, rng_get hi⟩
    subst hj
    have h80 : ¬ (some (4 : Int) = some 0) := by decide
    refine ⟨_, _, _, _, by (simp? only []) <;> rfl, by (simp? only []) <;> rfl, by (simp? only [u_E__law_folded_0, h80, pick_ints, sum_ints, sum2_l]) <;> rfl, by (simp? only []), by (simp? only []), ?_⟩
    exact ⟨_, rfl⟩)
  obtain ⟨cs, rfl⟩ := q3.ints (fun _ _ h => h)
  have hl2 := q3.length
  rw [rng_len] at hl2
  have hl3 : (intsL cs).length = cs.length := by unfold intsL; rw [List.length_map]
  refine ⟨cs, ?_, by omega, by omega⟩
  simp? only []
  rw [q1, q2]
  simp? only []
theorem great_p {n : Int} {p : List D} (h : Pk n p) (hn : n + 10 < 10 ^ 6) : ∃ v p', f__law_great [.lst p] = .ret (.sh (.int v)) p' ∧ 0 ≤ v ∧ v < 10 ^ 30 ∧ Pk (n + 5) p' := by
  obtain ⟨v1, p1, e1, a1, b1, h1⟩ := take_p h (m := 1000000) (by omega) (by omega) (by omega)
  obtain ⟨v2, p2, e2, a2, b2, h2⟩ := take_p h1 (m := 1000000) (by omega) (by omega) (by omega)
  obtain ⟨v3, p3, e3, a3, b3, h3⟩ := take_p h2 (m := 1000000) (by omega) (by omega) (by omega)
  obtain ⟨v4, p4, e4, a4, b4, h4⟩ := take_p h3 (m := 1000000) (by omega) (by omega) (by omega)
  obtain ⟨v5, p5, e5, a5, b5, h5⟩ := take_p h4 (m := 1000000) (by omega) (by omega) (by omega)
  refine ⟨((((0 * 1000000 + v1) * 1000000 + v2) * 1000000 + v3) * 1000000 + v4) * 1000000 + v5, p5, ?_, by omega, by omega, h5.mono (by omega)⟩
  simp? only [f__law_great, F__law_great, u_B__law_great_0]
  rw [if_pos (mul_ok (by omega) (by omega) (by omega) (by omega))]
  simp? only [u_B__law_great_0, e1]
  rw [if_pos (mul_ok (by omega) (by omega) (by omega) (by omega))]
  simp? only [u_B__law_great_0, e2]
  rw [if_pos (mul_ok (by omega) (by omega) (by omega) (by omega))]
  simp? only [u_B__law_great_0, e3]
  rw [if_pos (mul_ok (by omega) (by omega) (by omega) (by omega))]
  simp? only [u_B__law_great_0, e4]
  rw [if_pos (mul_ok (by omega) (by omega) (by omega) (by omega))]
  simp? only [u_B__law_great_0, e5]
theorem sign_p {n : Int} {p : List D} (h : Pk n p) (hn : n < 10 ^ 6) : ∃ v s p', f__law_take [.lst p, .int 2] = .ret (.sh (.int v)) p' ∧ L2.atI [D.int 1, D.int (-1)] v = some (.int s) ∧ (s = 1 ∨ s = -1) ∧ Pk (n + 1) p' := by
  obtain ⟨v, p', e, a, b, h1⟩ := take_p h (m := 2) (by omega) (by omega) (by omega)
  rcases (show v = 0 ∨ v = 1 by omega) with rfl | rfl
  · exact ⟨0, 1, p', e, rfl, .inl rfl, h1⟩
  · exact ⟨1, -1, p', e, rfl, .inr rfl, h1⟩
theorem number_p {n : Int} {p : List D} (h : Pk n p) (hn : n + 20 < 10 ^ 6) : ∃ v p', f__law_number [.lst p] = .ret (.sh (.int v)) p' ∧ -(10 ^ 30) ≤ v ∧ v ≤ 10 ^ 30 ∧ Pk (n + 9) p' := by
  obtain ⟨w, p1, e1, a1, b1, h1⟩ := take_p h (m := 4) (by omega) (by omega) (by omega)
  by_cases hw : w = 0
  · refine ⟨0, p1, ?_, by omega, by omega, h1.mono (by omega)⟩
    simp? only [f__law_number, F__law_number, e1, hw]
  by_cases h3 : w = 3
  · obtain ⟨v2, p2, e2, a2, b2, h2⟩ := great_p h1 (by omega)
    obtain ⟨v5, s, p5, e5, i5, s5, h5⟩ := sign_p h2 (by omega)
    refine ⟨v2 * s, p5, ?_, by rcases s5 with rfl | rfl <;> omega, by rcases s5 with rfl | rfl <;> omega, h5.mono (by omega)⟩
    have n30 : ¬ ((3 : Int) = 0) := by decide
    simp? only [f__law_number, F__law_number, e1, h3, n30, e2, e5, i5]
    rw [if_pos (mul_ok (by omega) (by omega) (by rcases s5 with rfl | rfl <;> omega) (by rcases s5 with rfl | rfl <;> omega))]
    simp? only []
  obtain ⟨v2, p2, e2, a2, b2, h2⟩ := take_p h1 (m := 9) (by omega) (by omega) (by omega)
  obtain ⟨v3, p3, e3, a3, b3, h3'⟩ := take_p h2 (m := 1000) (by omega) (by omega) (by omega)
  obtain ⟨v5, s, p5, e5, i5, s5, h5⟩ := sign_p h3' (by omega)
  obtain ⟨x, ix, x1, x2⟩ : ∃ x, L2.atI [D.int (1 + v2), D.int v3] (w - 1) = some (.int x) ∧ 0 ≤ x ∧ x ≤ 1000 := by
    rcases (show w = 1 ∨ w = 2 by omega) with rfl | rfl
    · exact ⟨_, rfl, by omega, by omega⟩
    · exact ⟨_, rfl, by omega, by omega⟩
  refine ⟨x * s, p5, ?_, by rcases s5 with rfl | rfl <;> omega, by rcases s5 with rfl | rfl <;> omega, h5.mono (by omega)⟩
  simp? only [f__law_number, F__law_number, e1, hw, h3, e2, e3, e5, ix, i5]
  rw [if_pos (mul_ok (by omega) (by omega) (by rcases s5 with rfl | rfl <;> omega) (by rcases s5 with rfl | rfl <;> omega))]
  simp? only []
def BdB (B : Int) (ns : List Int) : Prop := ∀ y ∈ ns, -B ≤ y ∧ y ≤ B
theorem BdB.mono {B C : Int} {ns : List Int} (h : BdB B ns) (l : B ≤ C) : BdB C ns := fun y hy => by have := h y hy; omega
theorem row_p {n : Int} {p : List D} (h : Pk n p) (m : Nat) (hm : m ≤ 30) (hn : n + 1000 < 10 ^ 6) : ∃ ns p', f__law_row [.lst p, .int (m : Int)] = .ret (.ow (intsL ns)) p' ∧ ns.length = m ∧ BdB (10 ^ 30) ns ∧ Pk (n + 9 * m) p' := by
  obtain ⟨rs, env', l1, ⟨p2, h2, l2⟩, l3⟩ := lcL_inv (f := gVar 2) (ot := oYes) (oe := E__law_row_0) (ws := [2]) (fun k e => ∃ p, Pk (n + 9 * k) p ∧ e = [SV.io p, .sh (.int (m : Int)), .no]) (fun _ r => ∃ i : Int, r = .int i ∧ (-(10 ^ 30) ≤ i ∧ i ≤ 10 ^ 30)) (rngD 0 m) 0 [SV.io p, .sh (.int (m : Int)), .no] [] (by rw [rng_len, List.length_nil]; omega) ⟨p, h.mono (by omega), rfl⟩ (by
    rintro k d env _ hk hd ⟨p, hp, rfl⟩
    rw [rng_len] at hk
    obtain ⟨j, rfl⟩ : ∃ j, d = .int j := by
      obtain ⟨i, hi⟩ := List.getElem?_of_mem hd
      exact ⟨_, rng_get hi⟩
    obtain ⟨v, pv, ev, av, bv, hv⟩ := number_p hp (by omega)
    refine ⟨_, _, _, _, by (simp? only []) <;> rfl, by (simp? only []) <;> rfl, by (simp? only [u_E__law_row_0, ev]) <;> rfl, by (simp? only []), ⟨pv, hv.mono (by omega), by (simp? only [])⟩, ⟨v, rfl, av, bv⟩⟩)
  obtain ⟨ns, rfl, hns⟩ := l3.intsP (fun _ _ h => h)
  have hl := l3.length
  rw [rng_len, len_ints] at hl
  rw [rng_len] at h2
  refine ⟨ns, p2, ?_, hl, hns, h2.mono (by omega)⟩
  simp? only [f__law_row, F__law_row]
  rw [if_pos (by omega)]
  simp? only [Int.toNat_natCast]
  rw [l1, l2]
  simp? only []
/-- a row as a tuple or a list -/
def rowD (b : Bool) (ns : List Int) : D := match b with
  | true => .tup (intsL ns)
  | false => .lst (intsL ns)
def conD (b : Bool) (ds : List D) : D := match b with
  | true => .tup ds
  | false => .lst ds
theorem dressed_p {n : Int} {p : List D} (h : Pk n p) (hn : n + 10 < 10 ^ 6) (ds : List D) : ∃ b r p', f__law_dressed [.lst p, .lst ds] = .ret r p' ∧ r.fz = conD b ds ∧ Pk (n + 1) p' := by
  obtain ⟨w, p1, e1, a1, b1, h1⟩ := take_p h (m := 2) (by omega) (by omega) (by omega)
  have hl : lstF [.lst ds] = some (.ow ds) := rfl
  by_cases w0 : w = 0
  · exact ⟨true, _, p1, by simp? only [f__law_dressed, F__law_dressed, e1, w0] <;> rfl, rfl, h1⟩
  · exact ⟨false, _, p1, by simp? only [f__law_dressed, F__law_dressed, e1, w0, hl] <;> rfl, rfl, h1⟩
theorem cut_1 {α : Type} (x : α) (xs : List α) : cutL (x :: xs) (some 1) none = xs := by
  unfold cutL
  rw [show HT.sIx (x :: xs).length 0 (some 1) = min 1 (x :: xs).length from HT.sIx_nat _ 0 1, HT.sIx_none, List.length_cons, show min 1 (xs.length + 1) = 1 by omega]
  show xs.take _ = xs
  rw [Nat.add_sub_cancel, List.take_length]
theorem cut_t (x : Int) (xs : List Int) : cutL (intsL (x :: xs)) (some 1) none = intsL xs := cut_1 _ _
/-- the worth, place by place -/
theorem worth_for (r vs : List Int) (hr : BdB (10 ^ 30) r) : ∀ (ws : List Int) (k : Nat) (acc : Int) (s3 s4 : SV), BdB (10 ^ 30) ws → (r.drop (k + 1)).length = ws.length → noIo (some s3) = true → noIo (some s4) = true →
    ∃ t3 t4, forL (gTupF 2 (gConsF (gVar 3) (gConsF (gVar 4) gNilF))) B__law_worth_at_0 (enumD k (intsL ws)) [.sh (.lst (intsL r)), .sh (.lst (intsL vs)), .sh (.int acc), s3, s4] =
      .nx [.sh (.lst (intsL r)), .sh (.lst (intsL vs)), .sh (.int (acc + dot (r.drop (k + 1)) ws)), t3, t4]
  | [], k, acc, s3, s4, _, hl, _, _ => by
    refine ⟨s3, s4, ?_⟩
    have e : r.drop (k + 1) = [] := List.length_eq_zero_iff.mp (by simpa using hl)
    rw [e]
    show forL _ _ [] _ = _
    simp? only [dot, Int.add_zero]
  | w :: ws, k, acc, s3, s4, hw, hl, n3, n4 => by
    have hk : k + 1 < r.length := by
      rw [List.length_drop, List.length_cons] at hl
      omega
    have hd : r.drop (k + 1) = r[k + 1] :: r.drop (k + 1 + 1) := List.drop_eq_getElem_cons hk
    rw [hd, List.length_cons, List.length_cons] at hl
    obtain ⟨t3, t4, ih⟩ := worth_for r vs hr ws (k + 1) (acc + r[k + 1] * w) (.sh (.int (k : Int))) (.sh (.int w)) (fun y hy => hw y (List.mem_cons_of_mem _ hy)) (by omega) rfl rfl
    refine ⟨t3, t4, ?_⟩
    have b1 := hr r[k + 1] (List.getElem_mem _)
    have b2 := hw w List.mem_cons_self
    have ia : L2.atI (intsL r) ((k : Int) + 1) = some (.int r[k + 1]) := by
      have := at_nat hk
      rw [Int.natCast_add] at this
      exact this
    rw [hd]
    show forL _ _ (.wtp [.int (k : Int), .int w] :: enumD (k + 1) (intsL ws)) _ = _
    simp? only [u_B__law_worth_at_0, n3, n4, ia]
    rw [if_pos (mul_ok (by omega) (by omega) (by omega) (by omega))]
    simp? only []
    rw [ih]
    show _ = OS.nx [_, _, SV.sh (D.int (acc + (r[k + 1] * w + dot (r.drop (k + 1 + 1)) ws))), t3, t4]
    rw [Int.add_assoc]
theorem worth_at_p (x : Int) (xs vs : List Int) (h1 : BdB (10 ^ 30) (x :: xs)) (h2 : BdB (10 ^ 30) vs) (hl : xs.length = vs.length) : f__law_worth_at [.lst (intsL (x :: xs)), .lst (intsL vs)] = .ret (.sh (.int (rwv (x :: xs) vs))) [] := by
  obtain ⟨t3, t4, e⟩ := worth_for (x :: xs) vs h1 vs 0 x .no .no h2 (by simpa using hl) rfl rfl
  have i0 : L2.atI (intsL (x :: xs)) 0 = some (.int x) := at_0 _ _
  simp? only [f__law_worth_at, F__law_worth_at, i0]
  rw [e]
  simp? only []
  rfl
/-- the products, item by item -/
theorem prod_lc (s0 s1 : SV) : ∀ (as bs : List Int) (acc : List D), BdB (10 ^ 70) as → BdB (10 ^ 70) bs → acc.length + as.length ≤ 1000000 →
    lcL (gTupF 2 (gConsF (gVar 2) (gConsF (gVar 3) gNilF))) oYes E_row_worth_0 [2, 3] (zipD (intsL as) (intsL bs)) [s0, s1, .no, .no] acc = some (acc ++ intsL (prods as bs), [s0, s1, .no, .no])
  | [], bs, acc, _, _, _ => by
    show lcL _ _ _ _ (zipD [] (intsL bs)) _ acc = some (acc ++ [], _)
    rw [List.append_nil]
    rfl
  | a :: as, [], acc, _, _, _ => by
    show lcL _ _ _ _ [] _ acc = some (acc ++ [], _)
    rw [List.append_nil]
    rfl
  | a :: as, b :: bs, acc, ha, hb, hl => by
    have b1 := ha a List.mem_cons_self
    have b2 := hb b List.mem_cons_self
    rw [List.length_cons] at hl
    have hlt : acc.length < 1000000 := by omega
    have ih := prod_lc s0 s1 as bs (acc ++ [.int (a * b)]) (fun y hy => ha y (List.mem_cons_of_mem _ hy)) (fun y hy => hb y (List.mem_cons_of_mem _ hy)) (by rw [List.length_append, List.length_singleton]; omega)
    show lcL _ _ _ _ (.wtp [.int a, .int b] :: zipD (intsL as) (intsL bs)) _ acc = _
    rw [lcL]
    simp? only [u_E_row_worth_0, u_E_added_0, u_Q_added_0]
    rw [if_pos (mul_ok (by omega) (by omega) (by omega) (by omega))]
    simp? only [hlt]
    rw [ih, List.append_assoc]
    rfl
theorem row_worth_p (b c : Bool) (x : Int) (xs vs : List Int) (h1 : BdB (10 ^ 70) xs) (h2 : BdB (10 ^ 70) vs) (hl : xs.length ≤ 1000) : f_row_worth [rowD b (x :: xs), rowD c vs] = .ret (.sh (.int (rwv (x :: xs) vs))) [] := by
  have i0 : L2.atI (intsL (x :: xs)) 0 = some (.int x) := at_0 _ _
  have lc := fun s0 s1 => prod_lc s0 s1 xs vs [] h1 h2 (by rw [List.length_nil]; omega)
  cases b <;> cases c <;> simp? only [rowD, f_row_worth, F_row_worth, i0, cut_t, lc, sum_ints, prods_sum] <;> rfl
/-! added -/
theorem addZ_zero : ∀ (a b : List Int), a.length = b.length → addZ 0 a b = a
  | [], b, _ => by cases b <;> rfl
  | x :: a, [], h => by simp at h
  | x :: a, y :: b, h => by
    show (x + 0 * y) :: addZ 0 a b = _
    rw [addZ_zero a b (by simpa using h), Int.zero_mul, Int.add_zero]
theorem added_in (t : Int) (ht : -(10 ^ 60) ≤ t ∧ t ≤ 10 ^ 60) (s0 s1 s2 s3 s4 : SV) : ∀ (tot r : List Int) (acc : List D), BdB (10 ^ 60) r → acc.length + tot.length ≤ 1000000 →
    lcL (gTupF 2 (gConsF (gVar 6) (gConsF (gVar 7) gNilF))) oYes E_added_0 [6, 7] (zipD (intsL tot) (intsL r)) [s0, s1, s2, s3, s4, .sh (.int t), .no, .no] acc = some (acc ++ intsL (addZ t tot r), [s0, s1, s2, s3, s4, .sh (.int t), .no, .no])
  | [], r, acc, _, _ => by
    show lcL _ _ _ _ (zipD [] (intsL r)) _ acc = some (acc ++ [], _)
    rw [List.append_nil]
    rfl
  | h :: hs, [], acc, _, _ => by
    show lcL _ _ _ _ [] _ acc = some (acc ++ [], _)
    rw [List.append_nil]
    rfl
  | h :: hs, m :: ms, acc, hr, hl => by
    have b2 := hr m List.mem_cons_self
    rw [List.length_cons] at hl
    have hlt : acc.length < 1000000 := by omega
    have ih := added_in t ht s0 s1 s2 s3 s4 hs ms (acc ++ [.int (h + t * m)]) (fun y hy => hr y (List.mem_cons_of_mem _ hy)) (by rw [List.length_append, List.length_singleton]; omega)
    show lcL _ _ _ _ (.wtp [.int h, .int m] :: zipD (intsL hs) (intsL ms)) _ acc = _
    rw [lcL]
    simp? only [u_E_row_worth_0, u_E_added_0, u_Q_added_0]
    rw [if_pos (mul_ok (by omega) (by omega) (by omega) (by omega))]
    simp? only [hlt]
    rw [ih, List.append_assoc]
    rfl
def rowsD (rows : List (Bool × List Int)) : List D := rows.map fun q => rowD q.1 q.2
theorem added_for (s0 s1 s2 : SV) : ∀ (rows : List (Bool × List Int)) (ts tot : List Int) (s4 s5 : SV), (∀ q ∈ rows, BdB (10 ^ 60) q.2) → BdB (10 ^ 60) ts → (∀ q ∈ rows, q.2.length = tot.length) → tot.length ≤ 1000 → noIo (some s4) = true → noIo (some s5) = true →
    ∃ t4 t5, forL (gTupF 2 (gConsF (gVar 4) (gConsF (gVar 5) gNilF))) Q_added_0 (zipD (rowsD rows) (intsL ts)) [s0, s1, s2, .sh (.lst (intsL tot)), s4, s5, .no, .no] =
      .nx [s0, s1, s2, .sh (.lst (intsL (addS tot (rows.map (·.2)) ts))), t4, t5, .no, .no]
  | [], ts, tot, s4, s5, _, _, _, _, _, _ => ⟨s4, s5, by cases ts <;> rfl⟩
  | q :: rows, [], tot, s4, s5, _, _, _, _, _, _ => ⟨s4, s5, rfl⟩
  | q :: rows, t :: ts, tot, s4, s5, hb, hts, hlen, hl, n4, n5 => by
    have ht := hts t List.mem_cons_self
    have hq := hb q List.mem_cons_self
    have lq := hlen q List.mem_cons_self
    obtain ⟨t4, t5, ih⟩ := added_for s0 s1 s2 rows ts (addZ t tot q.2) (.sh (rowD q.1 q.2)) (.sh (.int t)) (fun z hz => hb z (List.mem_cons_of_mem _ hz)) (fun y hy => hts y (List.mem_cons_of_mem _ hy)) (fun z hz => by rw [addZ_len t tot q.2 lq.symm]; exact hlen z (List.mem_cons_of_mem _ hz)) (by rw [addZ_len t tot q.2 lq.symm]; exact hl) rfl rfl
    refine ⟨t4, t5, ?_⟩
    have lc := fun s3 s4 => added_in t ht s0 s1 s2 s3 s4 tot q.2 [] hq (by rw [List.length_nil]; omega)
    show forL _ _ (.wtp [rowD q.1 q.2, .int t] :: zipD (rowsD rows) (intsL ts)) _ = _
    obtain ⟨b, r⟩ := q
    by_cases c : t = 0
    · subst c
      have z0 : addZ 0 tot r = tot := addZ_zero tot r lq.symm
      have nz : neF (.int 0) (.int 0) = some (.sh (.bl false)) := rfl
      cases b <;> simp only [rowD] at ih ⊢ <;> rw [z0] at ih <;> simp? only [u_Q_added_0, n4, n5, nz] <;> rw [ih] <;> rw [show addS tot (r :: List.map (fun x => x.snd) rows) (0 :: ts) = addS (addZ 0 tot r) (List.map (fun x => x.snd) rows) ts from rfl, z0]
    · have nz : neF (.int t) (.int 0) = some (.sh (.bl true)) := by
        show some (R.sh (D.bl (!decide (t = 0)))) = _
        rw [decide_eq_false c]
        rfl
      cases b <;> simp only [rowD] at ih ⊢ <;> simp? only [u_Q_added_0, n4, n5, nz, lc] <;> rw [ih] <;> rfl
theorem rep_ints (n : Nat) : (List.replicate n [D.int 0]).flatten = intsL (List.replicate n 0) := by
  induction n with
  | zero => rfl
  | succ n ih =>
    rw [List.replicate_succ, List.flatten_cons, ih, List.replicate_succ]
    rfl
theorem added_p (b c : Bool) (rows : List (Bool × List Int)) (ts : List Int) (w : Nat) (hw : w ≤ 100) (hb : ∀ q ∈ rows, BdB (10 ^ 60) q.2) (hts : BdB (10 ^ 60) ts) (hlen : ∀ q ∈ rows, q.2.length = w + 1) :
    f_added [conD b (rowsD rows), rowD c ts, .int (w : Int)] = .ret (.sh (.tup (intsL (addS (List.replicate (w + 1) 0) (rows.map (·.2)) ts)))) [] := by
  have c1 : 0 ≤ (w : Int) + 1 ∧ (w : Int) + 1 ≤ 1000 := by omega
  obtain ⟨m, hm⟩ : ∃ m, m = w + 1 := ⟨_, rfl⟩
  have c2 : ((w : Int) + 1).toNat = m := by omega
  rw [← hm] at hlen ⊢
  obtain ⟨t4, t5, e⟩ := added_for (.sh (conD b (rowsD rows))) (.sh (rowD c ts)) (.sh (.int (w : Int))) rows ts (List.replicate m 0) .no .no hb hts (fun q hq => by rw [List.length_replicate]; exact hlen q hq) (by rw [List.length_replicate]; omega) rfl rfl
  cases b <;> cases c
  all_goals
    simp only [conD, rowD] at e ⊢
    simp? only [f_added, F_added, c1, c2, rep_ints]
    rw [e]
    simp? only []
/-! ### the lines -/
def linesD (rs : List (List Int)) : List D := rs.map fun r => .lst (intsL r)
theorem lines_p {n : Int} {p : List D} (h : Pk n p) (w m : Nat) (hw : w ≤ 20) (hm : m ≤ 24) (hn : n + 10000 < 10 ^ 6) (t5 : SV) :
    ∃ rs p', lcL (gVar 14) oYes E__law_right_0 [14] (rngD 0 m) [SV.io p, .sh (.int (w : Int)), .no, .no, .no, .no, .no, .no, .no, .no, .no, .no, .no, .no, .no, .no, .no, .no] [] =
      some (linesD rs, [SV.io p', .sh (.int (w : Int)), .no, .no, .no, .no, .no, .no, .no, .no, .no, .no, .no, .no, .no, .no, .no, .no]) ∧ rs.length = m ∧ (∀ r ∈ rs, r.length = w + 1 ∧ BdB (10 ^ 30) r) ∧ Pk (n + 200 * m) p' := by
  obtain ⟨rs, env', l1, ⟨p2, h2, l2⟩, l3⟩ := lcL_inv (f := gVar 14) (ot := oYes) (oe := E__law_right_0) (ws := [14]) (fun k e => ∃ p, Pk (n + 200 * k) p ∧ e = [SV.io p, .sh (.int (w : Int)), .no, .no, .no, .no, .no, .no, .no, .no, .no, .no, .no, .no, .no, .no, .no, .no]) (fun _ r => ∃ ns, r = .lst (intsL ns) ∧ (ns.length = w + 1 ∧ BdB (10 ^ 30) ns)) (rngD 0 m) 0 _ [] (by rw [rng_len, List.length_nil]; omega) ⟨p, h.mono (by omega), rfl⟩ (by
    rintro k d env _ hk hd ⟨p, hp, rfl⟩
    rw [rng_len] at hk
    obtain ⟨j, _, rfl⟩ := rng_mem hd
    obtain ⟨ns, pv, ev, av, bv, hv⟩ := row_p hp (w + 1) (by omega) (by omega)
    rw [Int.natCast_add, Int.natCast_one] at ev
    refine ⟨_, _, _, _, by (simp? only []) <;> rfl, by (simp? only []) <;> rfl, by (simp? only [u_E__law_right_0, u_E__law_right_1, u_B__law_right_0, u_E__law_right_2, u_E__law_right_3, u_E__law_right_4, u_E__law_right_5, ev]) <;> rfl, by (simp? only []), ⟨pv, hv.mono (by omega), by (simp? only [])⟩, ⟨ns, rfl, av, bv⟩⟩)
  obtain ⟨as, rfl, hl, has⟩ := l3.to (fun r => .lst (intsL r)) (fun _ _ h => h)
  rw [rng_len] at hl
  rw [rng_len] at h2
  subst l2
  exact ⟨as, p2, l1, hl, has, h2.mono (by omega)⟩
theorem zip_lines : ∀ (rs : List (List Int)) (ts : List Int), zipD (linesD rs) (intsL ts) = (rs.zip ts).map fun q => .wtp [.lst (intsL q.1), .int q.2]
  | [], _ => by simp [linesD, zipD]
  | _ :: _, [] => by simp [linesD, intsL, zipD]
  | r :: rs, t :: ts => by
    have := zip_lines rs ts
    simp only [linesD, intsL] at this
    simp [linesD, intsL, zipD, this]
theorem col_zip (i : Nat) : ∀ (rs : List (List Int)) (ts : List Int), ((rs.zip ts).map fun q => q.2 * q.1.getD i 0).sum = col i rs ts
  | [], _ => by simp [col]
  | _ :: _, [] => by simp [col]
  | r :: rs, t :: ts => by
    show (t * r.getD i 0 :: _).sum = t * r.getD i 0 + col i rs ts
    rw [List.sum_cons]
    show t * r.getD i 0 + ((rs.zip ts).map fun q => q.2 * q.1.getD i 0).sum = _
    rw [col_zip i rs ts]
/-- a column's sum, as the law makes it -/
theorem col_lc (rs : List (List Int)) (ts : List Int) (i : Nat) (s0 s1 s2 s3 s4 s5 s7 : SV) (hr : ∀ r ∈ rs, i < r.length ∧ BdB (10 ^ 30) r) (hts : BdB (10 ^ 30) ts) (hl : rs.length ≤ 1000) :
    lcL (gTupF 2 (gConsF (gVar 15) (gConsF (gVar 17) gNilF))) oYes E__law_right_1 [15, 17] (zipD (linesD rs) (intsL ts)) [s0, s1, s2, s3, s4, s5, .sh (.int (i : Int)), s7, .no, .no, .no, .no, .no, .no, .no, .no, .no, .no] [] =
      some (intsL ((rs.zip ts).map fun q => q.2 * q.1.getD i 0), [s0, s1, s2, s3, s4, s5, .sh (.int (i : Int)), s7, .no, .no, .no, .no, .no, .no, .no, .no, .no, .no]) := by
  rw [zip_lines, lcL_of _ (fun q : List Int × Int => .wtp [.lst (intsL q.1), .int q.2]) (fun q : List Int × Int => .int (q.2 * q.1.getD i 0))]
  · unfold intsL
    rw [List.map_map]
    rfl
  · rw [List.length_nil, List.length_zip]
    omega
  · rintro ⟨r, t⟩ hq
    have hrm := List.of_mem_zip hq
    obtain ⟨hi, hb⟩ := hr r hrm.1
    have b1 := hb r[i] (List.getElem_mem _)
    have b2 := hts t hrm.2
    have ia := at_nat hi
    have gd : r.getD i 0 = r[i] := by rw [List.getD_eq_getElem?_getD, List.getElem?_eq_getElem hi]; rfl
    refine ⟨_, _, _, _, by (simp? only []) <;> rfl, by (simp? only []) <;> rfl, by
      simp? only [u_E__law_right_0, u_E__law_right_1, u_B__law_right_0, u_E__law_right_2, u_E__law_right_3, u_E__law_right_4, u_E__law_right_5, ia]
      rw [if_pos (mul_ok (by omega) (by omega) (by omega) (by omega))]
      simp? only [] <;> rfl, by simp? only [gd], by (simp? only []), by (simp? only [])⟩
theorem due_for (rs : List (List Int)) (ts : List Int) (w : Nat) (s0 s1 s4 : SV) (hw : w ≤ 20) (hr : ∀ r ∈ rs, r.length = w + 1 ∧ BdB (10 ^ 30) r) (hts : BdB (10 ^ 30) ts) (hl : rs.length ≤ 1000) :
    ∀ (m k : Nat) (acc : List Int) (s6 : SV), k + m = w + 1 → acc.length = k → noIo (some s6) = true → ∃ t6, noIo (some t6) = true ∧
      forL (gVar 6) B__law_right_0 (rngD (k : Int) m) [s0, s1, .sh (.lst (linesD rs)), .sh (.lst (intsL ts)), s4, .ow (intsL acc), s6, .no, .no, .no, .no, .no, .no, .no, .no, .no, .no, .no] =
        .nx [s0, s1, .sh (.lst (linesD rs)), .sh (.lst (intsL ts)), s4, .ow (intsL (acc ++ (List.range' k m).map fun i => col i rs ts)), t6, .no, .no, .no, .no, .no, .no, .no, .no, .no, .no, .no]
  | 0, k, acc, s6, _, _, n6 => ⟨s6, n6, by
    show forL _ _ [] _ = _
    simp? only [List.range'_zero]⟩
  | m + 1, k, acc, s6, hk, ha, n6 => by
    obtain ⟨t6, m6, ih⟩ := due_for rs ts w s0 s1 s4 hw hr hts hl m (k + 1) (acc ++ [col k rs ts]) (.sh (.int (k : Int))) (by omega) (by rw [List.length_append, ha]; rfl) rfl
    refine ⟨t6, m6, ?_⟩
    have lc := col_lc rs ts k s0 s1 (.sh (.lst (linesD rs))) (.sh (.lst (intsL ts))) s4 (.ow (intsL acc)) .no (fun r hr' => ⟨by have := (hr r hr').1; omega, (hr r hr').2⟩) hts hl
    have al : (intsL acc).length < 1000000 := by rw [len_ints]; omega
    have ap : ∀ x : Int, intsL acc ++ [D.int x] = intsL (acc ++ [x]) := fun x => app_ints acc [x]
    rw [rng_succ]
    simp? only [u_E__law_right_0, u_E__law_right_1, u_B__law_right_0, u_E__law_right_2, u_E__law_right_3, u_E__law_right_4, u_E__law_right_5, n6, lc, sum_ints, col_zip, al, ap]
    rw [ih]
    rw [List.range'_succ, List.map_cons, List.append_assoc]
    rfl
theorem zip_ii : ∀ (as bs : List Int), zipD (intsL as) (intsL bs) = (as.zip bs).map fun q => .wtp [.int q.1, .int q.2]
  | [], _ => by simp [intsL, zipD]
  | _ :: _, [] => by simp [intsL, zipD]
  | x :: xs, y :: ys => by
    have := zip_ii xs ys
    simp only [intsL] at this
    simp [intsL, zipD, this]
theorem weigh_zip (vs : List Int) : ∀ (rs : List (List Int)) (ts : List Int), (((rs.map fun r => rwv r vs).zip ts).map fun q => q.1 * q.2).sum = weigh vs rs ts
  | [], _ => by simp [weigh]
  | _ :: _, [] => by simp [weigh]
  | r :: rs, t :: ts => by
    show (rwv r vs * t :: _).sum = t * rwv r vs + weigh vs rs ts
    rw [List.sum_cons, Int.mul_comm]
    show t * rwv r vs + (((rs.map fun r => rwv r vs).zip ts).map fun q => q.1 * q.2).sum = _
    rw [weigh_zip vs rs ts]
theorem dot_bd (B C : Int) (hB : 0 ≤ B) (hC : 0 ≤ C) : ∀ (xs vs : List Int), BdB B xs → BdB C vs → -((xs.length : Int) * (B * C)) ≤ dot xs vs ∧ dot xs vs ≤ (xs.length : Int) * (B * C)
  | [], vs, _, _ => by
    have : dot [] vs = 0 := by cases vs <;> rfl
    rw [this]
    simp
  | x :: xs, [], _, _ => by
    have h : 0 ≤ ((x :: xs).length : Int) * (B * C) := Int.mul_nonneg (by omega) (Int.mul_nonneg hB hC)
    show -_ ≤ (0 : Int) ∧ (0 : Int) ≤ _
    omega
  | x :: xs, v :: vs, h1, h2 => by
    have ih := dot_bd B C hB hC xs vs (fun y hy => h1 y (List.mem_cons_of_mem _ hy)) fun y hy => h2 y (List.mem_cons_of_mem _ hy)
    have a := h1 x List.mem_cons_self
    have b := h2 v List.mem_cons_self
    have c := mul_le_big (i := x) (j := v) (a := B) (b := C) a.1 a.2 b.1 b.2
    have e : ((x :: xs).length : Int) * (B * C) = (xs.length : Int) * (B * C) + B * C := by
      rw [List.length_cons, Int.natCast_add, Int.add_mul]
      omega
    show -_ ≤ x * v + dot xs vs ∧ x * v + dot xs vs ≤ _
    rw [e]
    omega
theorem addZ_bd (t : Int) (B : Int) (ht : -(10 ^ 30) ≤ t ∧ t ≤ 10 ^ 30) : ∀ (a b : List Int), BdB B a → BdB (10 ^ 30) b → BdB (B + 10 ^ 60) (addZ t a b)
  | [], b, _, _ => fun y hy => by cases b <;> cases hy
  | _ :: _, [], _, _ => fun y hy => by cases hy
  | h :: hs, m :: ms, ha, hb => fun y hy => by
    rcases List.mem_cons.mp hy with rfl | hy
    · have a := ha h List.mem_cons_self
      have b := hb m List.mem_cons_self
      have c := mul_le_big (i := t) (j := m) (a := 10 ^ 30) (b := 10 ^ 30) ht.1 ht.2 b.1 b.2
      omega
    · exact addZ_bd t B ht hs ms (fun y hy => ha y (List.mem_cons_of_mem _ hy)) (fun y hy => hb y (List.mem_cons_of_mem _ hy)) y hy
theorem addS_bd : ∀ (rs : List (List Int)) (ts tot : List Int) (B : Int), BdB B tot → (∀ r ∈ rs, BdB (10 ^ 30) r) → BdB (10 ^ 30) ts → BdB (B + (rs.length : Int) * 10 ^ 60) (addS tot rs ts)
  | [], ts, tot, B, h, _, _ => by
    have : addS tot [] ts = tot := by cases ts <;> rfl
    rw [this]
    exact h.mono (by omega)
  | r :: rs, [], tot, B, h, _, _ => h.mono (by
      have : 0 ≤ ((r :: rs).length : Int) * 10 ^ 60 := Int.mul_nonneg (by omega) (by omega)
      omega)
  | r :: rs, t :: ts, tot, B, h, hr, ht => by
    have ih := addS_bd rs ts (addZ t tot r) (B + 10 ^ 60) (addZ_bd t B (ht t List.mem_cons_self) tot r h (hr r List.mem_cons_self)) (fun q hq => hr q (List.mem_cons_of_mem _ hq)) fun y hy => ht y (List.mem_cons_of_mem _ hy)
    refine BdB.mono ih ?_
    rw [List.length_cons, Int.natCast_add, Int.add_mul]
    omega
theorem due_eq (rs : List (List Int)) (ts : List Int) (w : Nat) (hr : ∀ r ∈ rs, r.length = w + 1) : (List.range' 0 (w + 1)).map (fun i => col i rs ts) = addS (List.replicate (w + 1) 0) rs ts := by
  have hl : (addS (List.replicate (w + 1) 0) rs ts).length = w + 1 := by
    rw [addS_len rs ts _ fun r h => by rw [List.length_replicate]; exact hr r h, List.length_replicate]
  apply List.ext_getElem
  · rw [List.length_map, List.length_range', hl]
  · intro i h1 h2
    rw [List.getElem_map, List.getElem_range', Nat.zero_add, Nat.one_mul]
    have e := addS_get i rs ts (List.replicate (w + 1) 0) fun r h => by rw [List.length_replicate]; exact hr r h
    rw [List.getD_eq_getElem?_getD, List.getElem?_eq_getElem h2, Option.getD_some] at e
    have z : (List.replicate (w + 1) (0 : Int)).getD i 0 = 0 := by
      rw [List.getD_eq_getElem?_getD, List.getElem?_replicate]
      split <;> rfl
    rw [z, Int.zero_add] at e
    exact e.symm
theorem worths_lc (rs : List (List Int)) (vs : List Int) (w : Nat) (s0 s1 s2 s3 s5 s6 : SV) (hr : ∀ r ∈ rs, r.length = w + 1 ∧ BdB (10 ^ 30) r) (hv : BdB (10 ^ 30) vs) (hvl : vs.length = w) (hl : rs.length ≤ 1000) :
    lcL (gVar 15) oYes E__law_right_2 [15] (linesD rs) [s0, s1, s2, s3, .sh (.lst (intsL vs)), s5, s6, .no, .no, .no, .no, .no, .no, .no, .no, .no, .no, .no] [] =
      some (intsL (rs.map fun r => rwv r vs), [s0, s1, s2, s3, .sh (.lst (intsL vs)), s5, s6, .no, .no, .no, .no, .no, .no, .no, .no, .no, .no, .no]) := by
  unfold linesD
  rw [lcL_of _ (fun r : List Int => .lst (intsL r)) (fun r : List Int => .int (rwv r vs))]
  · unfold intsL
    rw [List.map_map]
    rfl
  · rw [List.length_nil]
    omega
  · intro r h
    obtain ⟨h1, h2⟩ := hr r h
    cases r with
    | nil => cases h1
    | cons x xs =>
      have e := worth_at_p x xs vs h2 hv (by rw [List.length_cons] at h1; omega)
      exact ⟨_, _, _, _, by (simp? only []) <;> rfl, by (simp? only []) <;> rfl, by (simp? only [u_E__law_right_0, u_E__law_right_1, u_B__law_right_0, u_E__law_right_2, u_E__law_right_3, u_E__law_right_4, u_E__law_right_5, e]) <;> rfl, by simp? only [], by (simp? only []), by (simp? only [])⟩
theorem handed_lc {n : Int} {p : List D} (h : Pk n p) (rs : List (List Int)) (hn : n + 10000 < 10 ^ 6) (hl : rs.length ≤ 100) (s1 s2 s3 s4 s5 s6 s7 : SV) :
    ∃ rows p', lcL (gVar 15) oYes E__law_right_3 [15] (linesD rs) [.io p, s1, s2, s3, s4, s5, s6, s7, .no, .no, .no, .no, .no, .no, .no, .no, .no, .no] [] =
      some (rowsD rows, [.io p', s1, s2, s3, s4, s5, s6, s7, .no, .no, .no, .no, .no, .no, .no, .no, .no, .no]) ∧ rows.map (·.2) = rs ∧ Pk (n + 100) p' := by
  obtain ⟨es, env', l1, ⟨p2, h2, l2⟩, l3⟩ := lcL_inv (f := gVar 15) (ot := oYes) (oe := E__law_right_3) (ws := [15]) (fun k e => ∃ p, Pk (n + k) p ∧ e = [.io p, s1, s2, s3, s4, s5, s6, s7, .no, .no, .no, .no, .no, .no, .no, .no, .no, .no]) (fun d r => ∃ b ns, d = .lst (intsL ns) ∧ r = rowD b ns) (linesD rs) 0 _ [] (by unfold linesD; rw [List.length_map, List.length_nil]; omega) ⟨p, h.mono (by omega), rfl⟩ (by
    rintro k d env _ hk hd ⟨p, hp, rfl⟩
    unfold linesD at hk hd
    rw [List.length_map] at hk
    obtain ⟨ns, _, rfl⟩ := List.mem_map.mp hd
    obtain ⟨b, r, pv, ev, hr, hv⟩ := dressed_p hp (by omega) (intsL ns)
    exact ⟨_, _, _, _, by (simp? only []) <;> rfl, by (simp? only []) <;> rfl, by (simp? only [u_E__law_right_0, u_E__law_right_1, u_B__law_right_0, u_E__law_right_2, u_E__law_right_3, u_E__law_right_4, u_E__law_right_5, ev]) <;> rfl, by (simp? only []), ⟨pv, hv.mono (by omega), by (simp? only [])⟩, ⟨b, ns, rfl, by rw [hr]; cases b <;> rfl⟩⟩)
  subst l2
  have key : ∀ {xs : List (List Int)} {es : List D}, A2 (fun d r => ∃ b ns, d = .lst (intsL ns) ∧ r = rowD b ns) (linesD xs) es → ∃ rows, es = rowsD rows ∧ rows.map (·.2) = xs := by
    intro xs
    induction xs with
    | nil =>
      intro es q
      cases q
      exact ⟨[], rfl, rfl⟩
    | cons x xs ih =>
      intro es q
      cases q with
      | cons a r =>
        obtain ⟨b, ns, e1, rfl⟩ := a
        obtain ⟨rows, rfl, e2⟩ := ih r
        have : ns = x := (ints_inj (D.lst.inj e1)).symm
        subst this
        exact ⟨(b, ns) :: rows, rfl, by rw [List.map_cons, e2]⟩
  obtain ⟨rows, rfl, e⟩ := key l3
  unfold linesD at h2
  rw [List.length_map] at h2
  exact ⟨rows, p2, l1, e, h2.mono (by omega)⟩
theorem worth_lc (rows : List (Bool × List Int)) (vs : List Int) (bv : Bool) (w : Nat) (env : FE.Env) (he : ∃ s0 s1 s2 s3 s4 s5 s6 s7 s8 s9 s11 s12, env = [s0, s1, s2, s3, s4, s5, s6, s7, s8, s9, .sh (rowD bv vs), s11, s12, .no, .no, .no, .no, .no]) (hr : ∀ q ∈ rows, q.2.length = w + 1 ∧ BdB (10 ^ 30) q.2) (hv : BdB (10 ^ 30) vs) (hw : w ≤ 20) (hl : rows.length ≤ 1000) :
    lcL (gVar 15) oYes E__law_right_4 [15] (rowsD rows) env [] = some (intsL ((rows.map (·.2)).map fun r => rwv r vs), env) := by
  obtain ⟨s0, s1, s2, s3, s4, s5, s6, s7, s8, s9, s11, s12, rfl⟩ := he
  unfold rowsD
  rw [lcL_of _ (fun q : Bool × List Int => rowD q.1 q.2) (fun q : Bool × List Int => .int (rwv q.2 vs))]
  · unfold intsL
    rw [List.map_map, List.map_map]
    rfl
  · rw [List.length_nil]
    omega
  · rintro ⟨b, r⟩ h
    obtain ⟨h1, h2⟩ := hr (b, r) h
    dsimp only at h1 h2
    cases r with
    | nil => cases h1
    | cons x xs =>
      have e := row_worth_p b bv x xs vs (BdB.mono (fun y hy => h2 y (List.mem_cons_of_mem _ hy)) (by omega)) (hv.mono (by omega)) (by rw [List.length_cons] at h1; omega)
      exact ⟨_, _, _, _, by (simp? only []) <;> rfl, by (simp? only []) <;> rfl, by (simp? only [u_E__law_right_0, u_E__law_right_1, u_B__law_right_0, u_E__law_right_2, u_E__law_right_3, u_E__law_right_4, u_E__law_right_5, e]) <;> rfl, by simp? only [], by (simp? only []), by (simp? only [])⟩
theorem prod_lc2 (xs ts : List Int) (env : FE.Env) (he : ∃ s0 s1 s2 s3 s4 s5 s6 s7 s8 s9 s10 s11 s12, env = [s0, s1, s2, s3, s4, s5, s6, s7, s8, s9, s10, s11, s12, .no, .no, .no, .no, .no]) (h1 : BdB (10 ^ 100) xs) (h2 : BdB (10 ^ 30) ts) (hl : xs.length ≤ 1000) :
    lcL (gTupF 2 (gConsF (gVar 16) (gConsF (gVar 17) gNilF))) oYes E__law_right_5 [16, 17] (zipD (intsL xs) (intsL ts)) env [] = some (intsL ((xs.zip ts).map fun q => q.1 * q.2), env) := by
  obtain ⟨s0, s1, s2, s3, s4, s5, s6, s7, s8, s9, s10, s11, s12, rfl⟩ := he
  rw [zip_ii, lcL_of _ (fun q : Int × Int => .wtp [.int q.1, .int q.2]) (fun q : Int × Int => .int (q.1 * q.2))]
  · unfold intsL
    rw [List.map_map]
    rfl
  · rw [List.length_nil, List.length_zip]
    omega
  · rintro ⟨x, t⟩ hq
    have hm := List.of_mem_zip hq
    have b1 := h1 x hm.1
    have b2 := h2 t hm.2
    exact ⟨_, _, _, _, by (simp? only []) <;> rfl, by (simp? only []) <;> rfl, by
      simp? only [u_E__law_right_0, u_E__law_right_1, u_B__law_right_0, u_E__law_right_2, u_E__law_right_3, u_E__law_right_4, u_E__law_right_5]
      rw [if_pos (mul_ok (by omega) (by omega) (by omega) (by omega))]
      simp? only [] <;> rfl, by simp? only [], by (simp? only []), by (simp? only [])⟩
theorem show_row (b : Bool) (ns : List Int) (h : BdB (10 ^ 200) ns) (hl : ns.length ≤ 30) : ShowOk (rowD b ns) 30 1 := by
  have a : ∀ d ∈ intsL ns, ShowOk d 0 0 := showInts fun y hy => by have := h y hy; omega
  cases b
  · exact showLst a (by rw [len_ints]; exact hl)
  · exact showTup a (by rw [len_ints]; exact hl)
theorem show_rows (b : Bool) (rows : List (Bool × List Int)) (h : ∀ q ∈ rows, q.2.length ≤ 30 ∧ BdB (10 ^ 30) q.2) (hl : rows.length ≤ 30) : ShowOk (conD b (rowsD rows)) 930 2 := by
  have a : ∀ d ∈ rowsD rows, ShowOk d 30 1 := fun d hd => by
    obtain ⟨q, hq, rfl⟩ := List.mem_map.mp hd
    exact show_row q.1 q.2 ((h q hq).2.mono (by omega)) (h q hq).1
  cases b
  · exact showLst a (by unfold rowsD; rw [List.length_map]; exact hl)
  · exact showTup a (by unfold rowsD; rw [List.length_map]; exact hl)
theorem right_p {n : Int} {p : List D} (h : Pk n p) (hn : n + 20000 < 10 ^ 6) : ∃ p', f__law_right [.lst p] = .ret (.sh (.bl true)) p' := by
  obtain ⟨w0, p1, e1, a1, b1, h1⟩ := take_p h (m := 3) (by omega) (by omega) (by omega)
  obtain ⟨x, ix, x1, x2⟩ : ∃ x, L2.atI [D.int 11, D.int 11, D.int 21] w0 = some (.int x) ∧ 1 ≤ x ∧ x ≤ 21 := by
    rcases (show w0 = 0 ∨ w0 = 1 ∨ w0 = 2 by omega) with rfl | rfl | rfl
    all_goals exact ⟨_, rfl, by omega, by omega⟩
  obtain ⟨w1, p2, e2, a2, b2, h2⟩ := take_p h1 (m := x) (by omega) (by omega) (by omega)
  obtain ⟨w, hw⟩ : ∃ w : Nat, w1 = (w : Int) := ⟨w1.toNat, by omega⟩
  subst hw
  obtain ⟨w2, p3, e3, a3, b3, h3⟩ := take_p h2 (m := 4) (by omega) (by omega) (by omega)
  obtain ⟨y, iy, y1, y2⟩ : ∃ y, L2.atI [D.int 7, D.int 7, D.int 7, D.int 25] w2 = some (.int y) ∧ 1 ≤ y ∧ y ≤ 25 := by
    rcases (show w2 = 0 ∨ w2 = 1 ∨ w2 = 2 ∨ w2 = 3 by omega) with rfl | rfl | rfl | rfl
    all_goals exact ⟨_, rfl, by omega, by omega⟩
  obtain ⟨m, p4, e4, a4, b4, h4⟩ := take_p h3 (m := y) (by omega) (by omega) (by omega)
  obtain ⟨rs, p5, l1, hl, hrs, h5⟩ := lines_p h4 w m.toNat (by omega) (by omega) (by omega) .no
  obtain ⟨ts, p6, e6, tl, tb, h6⟩ := row_p h5 rs.length (by omega) (by omega)
  obtain ⟨vs, p7, e7, vl, vb, h7⟩ := row_p h6 w (by omega) (by omega)
  have ll : (linesD rs).length = rs.length := by unfold linesD; rw [List.length_map]
  obtain ⟨t6, n6, d6⟩ := due_for rs ts w (.io p7) (.sh (.int (w : Int))) (.sh (.lst (intsL vs))) (by omega) hrs tb (by omega) (w + 1) 0 [] .no (by omega) rfl rfl
  rw [due_eq rs ts w fun r hr => (hrs r hr).1, List.nil_append] at d6
  have w10 : ((w : Int) + 1).toNat = w + 1 := by omega
  have in0 : intsL [] = [] := rfl
  rw [in0, show ((0 : Nat) : Int) = 0 from rfl] at d6
  obtain ⟨due, hdue⟩ : ∃ due, due = addS (List.replicate (w + 1) 0) rs ts := ⟨_, rfl⟩
  rw [← hdue] at d6
  have due_l : due.length = w + 1 := by
    rw [hdue, addS_len rs ts _ fun r h => by rw [List.length_replicate]; exact (hrs r h).1, List.length_replicate]
  have due_b : BdB (10 ^ 62) due := by
    rw [hdue]
    refine BdB.mono (addS_bd rs ts (List.replicate (w + 1) 0) 0 (fun y hy => by rw [(List.mem_replicate.mp hy).2]; omega) (fun r hr => (hrs r hr).2) tb) ?_
    have : (rs.length : Int) ≤ 24 := by omega
    omega
  have wl := fun s0 s1 s2 s3 s5 s6 => worths_lc rs vs w s0 s1 s2 s3 s5 s6 hrs vb vl (by omega)
  obtain ⟨ws, hws⟩ : ∃ ws, ws = rs.map fun r => rwv r vs := ⟨_, rfl⟩
  rw [← hws] at wl
  have rw_b : ∀ r : List Int, r.length = w + 1 → BdB (10 ^ 62) r → -(10 ^ 94) ≤ rwv r vs ∧ rwv r vs ≤ 10 ^ 94 := fun r h1 h2 => by
    cases r with
    | nil => cases h1
    | cons x xs =>
      have a := dot_bd (10 ^ 62) (10 ^ 30) (by omega) (by omega) xs vs (fun y hy => h2 y (List.mem_cons_of_mem _ hy)) vb
      have b := h2 x List.mem_cons_self
      have c : (xs.length : Int) ≤ 20 := by rw [List.length_cons] at h1; omega
      show -_ ≤ x + dot xs vs ∧ x + dot xs vs ≤ _
      omega
  have ws_b : BdB (10 ^ 94) ws := fun y hy => by
    rw [hws] at hy
    obtain ⟨r, hr, rfl⟩ := List.mem_map.mp hy
    exact rw_b r (hrs r hr).1 ((hrs r hr).2.mono (by omega))
  have ws_l : ws.length = rs.length := by rw [hws, List.length_map]
  obtain ⟨rows, p8, hd8, hrows, h8⟩ := handed_lc h7 rs (by omega) (by omega) (.sh (.int (w : Int))) (.sh (.lst (linesD rs))) (.sh (.lst (intsL ts))) (.sh (.lst (intsL vs))) (.ow (intsL due)) t6 (.sh (.lst (intsL ws)))
  obtain ⟨bc, r9, p9, e9, f9, h9⟩ := dressed_p h8 (by omega) (rowsD rows)
  obtain ⟨bt, r10, p10, e10, f10, h10⟩ := dressed_p h9 (by omega) (intsL ts)
  obtain ⟨bv, r11, p11, e11, f11, h11⟩ := dressed_p h10 (by omega) (intsL vs)
  have c2r : ∀ (b : Bool) (ns : List Int), conD b (intsL ns) = rowD b ns := fun b ns => by cases b <;> rfl
  rw [c2r] at f10 f11
  have rows_l : rows.length = rs.length := by rw [← hrows, List.length_map]
  have rows_h : ∀ q ∈ rows, q.2.length = w + 1 ∧ BdB (10 ^ 30) q.2 := fun q hq => hrs q.2 (by rw [← hrows]; exact List.mem_map.mpr ⟨q, hq, rfl⟩)
  have kept : ∃ S, reprF [D.tup [conD bc (rowsD rows), rowD bt ts, rowD bv vs]] = some (.sh (.str S)) := ⟨_, repr_ok (b := 3 * 931) (n := 3) (showTup (b := 930) (n := 2) (L := 3) (fun d hd => by
    simp only [List.mem_cons, List.not_mem_nil, or_false] at hd
    rcases hd with rfl | rfl | rfl
    · exact show_rows bc rows (fun q hq => ⟨by have := (rows_h q hq).1; omega, (rows_h q hq).2⟩) (by omega)
    · exact (show_row bt ts (tb.mono (by omega)) (by omega)).mono (by omega) (by omega)
    · exact (show_row bv vs (vb.mono (by omega)) (by omega)).mono (by omega) (by omega)) (Nat.le_refl _)) (by omega) (by omega)⟩
  obtain ⟨SK, rK⟩ := kept
  have told := added_p bc bt rows ts w (by omega) (fun q hq => (rows_h q hq).2.mono (by omega)) (tb.mono (by omega)) fun q hq => (rows_h q hq).1
  rw [hrows, ← hdue] at told
  obtain ⟨SD, rD⟩ : ∃ S, reprF [D.tup (intsL due)] = some (.sh (.str S)) := ⟨_, repr_ok (show_row true due (due_b.mono (by omega)) (by omega)) (by omega) (by omega)⟩
  have wr := fun env he => worth_lc rows vs bv w env he rows_h vb (by omega) (by omega)
  rw [hrows, ← hws] at wr
  obtain ⟨SW, rW⟩ : ∃ S, reprF [D.lst (intsL ws)] = some (.sh (.str S)) := ⟨_, repr_ok (show_row false ws (ws_b.mono (by omega)) (by omega)) (by omega) (by omega)⟩
  have pl := fun env he => prod_lc2 ws ts env he (ws_b.mono (by omega)) tb (by omega)
  have wz : ((ws.zip ts).map fun q => q.1 * q.2).sum = rwv due vs := by
    rw [hws, weigh_zip, hdue, rwv_all vs rs ts _ fun r h => by rw [List.length_replicate]; exact (hrs r h).1, rwv_zero, Int.zero_add]
  obtain ⟨T, hT⟩ : ∃ T, T = rwv due vs := ⟨_, rfl⟩
  have Tb := rw_b due due_l due_b
  obtain ⟨ST, rT⟩ := repr_int (i := rwv due vs) (by omega) (by omega)
  have dw : ∀ b c, f_row_worth [rowD b due, rowD c vs] = .ret (.sh (.int (rwv due vs))) [] := fun b c => by
    cases hd : due with
    | nil => rw [hd] at due_l; cases due_l
    | cons z zs =>
      rw [hd] at due_b due_l
      exact row_worth_p b c z zs vs (BdB.mono (fun y hy => due_b y (List.mem_cons_of_mem _ hy)) (by omega)) (vb.mono (by omega)) (by rw [List.length_cons] at due_l; omega)
  have dwt : ∀ c, f_row_worth [.tup (intsL due), rowD c vs] = .ret (.sh (.int (rwv due vs))) [] := fun c => dw true c
  have dwl : f_row_worth [.lst (intsL due), .tup (intsL vs)] = .ret (.sh (.int (rwv due vs))) [] := dw false true
  have told2 : f_added [.tup (linesD rs), .tup (intsL ts), .int (w : Int)] = .ret (.sh (.tup (intsL due))) [] := by
    have e := added_p true true (rs.map fun r => (false, r)) ts w (by omega) (fun q hq => by
      obtain ⟨r, hr, rfl⟩ := List.mem_map.mp hq
      exact (hrs r hr).2.mono (by omega)) (tb.mono (by omega)) fun q hq => by
      obtain ⟨r, hr, rfl⟩ := List.mem_map.mp hq
      exact (hrs r hr).1
    have e1 : rowsD (rs.map fun r => (false, r)) = linesD rs := by
      unfold rowsD linesD
      rw [List.map_map]
      rfl
    have e2 : (rs.map fun r => (false, r)).map (·.2) = rs := by
      rw [List.map_map]
      exact List.map_id _
    rw [e1, e2, ← hdue] at e
    exact e
  have it : itemsD (conD bc (rowsD rows)) = some (rowsD rows) := by cases bc <;> rfl
  refine ⟨p11, ?_⟩
  simp? only [f__law_right, F__law_right, e1, ix, e2, e3, iy, e4]
  rw [if_pos (by omega)]
  simp? only [l1, e6, ll, e7]
  rw [if_pos (by omega)]
  simp? only [w10, d6, wl, hd8, e9, f9, e10, f10, e11, f11, rK, told, rD, it]
  rw [wr _ ⟨_, _, _, _, _, _, _, _, _, _, _, _, rfl⟩]
  simp? only [rW]
  rw [pl _ ⟨_, _, _, _, _, _, _, _, _, _, _, _, _, rfl⟩]
  simp? only [sum_ints, wz, dwt, rT, dwl, told2, rD, rK]
theorem law_true (ns : List Int) (hl : ns.length ≤ 63) (_ : ∀ k ∈ ns, Builtin.Int.intBits k ≤ 1048576) : f_law [.lst (intsL ns)] = .ret (.sh (.bl true)) [] := by
  obtain ⟨cs, e1, _, hc⟩ := folded_p ns hl
  obtain ⟨rs, env', q1, rfl, q3⟩ := lcL_inv (f := gVar 2) (ot := oYes) (oe := E_law_0) (ws := [2]) (fun _ e => e = [SV.sh (D.lst (intsL ns)), SV.sh (D.lst (intsL cs)), SV.no]) (fun _ r => r = .bl true) (rngD 0 cs.length) 0 [SV.sh (D.lst (intsL ns)), SV.sh (D.lst (intsL cs)), SV.no] [] (by rw [rng_len, List.length_nil]; omega) rfl (by
    rintro k d env _ hk hd rfl
    obtain ⟨j, hj, rfl⟩ := rng_mem hd
    obtain ⟨p, ep, hp⟩ := pool_p cs j (by omega)
    obtain ⟨p', er⟩ := right_p hp (by omega)
    exact ⟨_, _, _, _, by (simp? only []) <;> rfl, by (simp? only []) <;> rfl, by (simp? only [u_E_law_0, ep, er]) <;> rfl, by (simp? only []), by (simp? only []), rfl⟩)
  simp? only [f_law, F_law, e1, len_ints]
  rw [if_pos (by omega)]
  simp? only [Int.toNat_natCast]
  rw [q1]
  simp? only [all_true q3]
end countfold_k08_rows_worth_and_added

open PySem PySem.W PySem.Calls PyProof.Rows
theorem PySem.Challenge.cw_countfold_k08_rows_worth_and_added_holds : PySem.Challenge.rw_countfold_k08_rows_worth_and_added.Holds := by
  w_on; o_law
  refine HandSHeadRun.head_any (r := countfold_k08_rows_worth_and_added.R) (q := view countfold_k08_rows_worth_and_added.R.prog [13]) (H := countfold_k08_rows_worth_and_added.hk) (ob := countfold_k08_rows_worth_and_added.ob) (M := 4000) (loose := countfold_k08_rows_worth_and_added.loose) (d := HandSHeadRun.topDef countfold_k08_rows_worth_and_added.R.prog 13) (kwd := []) countfold_k08_rows_worth_and_added.ob_eq (by kernel_rfl) (fun s => by kernel_rfl) countfold_k08_rows_worth_and_added.run (by kernel_rfl) (by kernel_rfl) (by kernel_rfl) (by rfl) (by first | assumption | decide +kernel) (by decide +kernel) ⟨rfl, rfl, rfl, rfl, rfl, by decide +kernel⟩ ?hw ?hc
  case hw => w_witness2
  case hc =>
    refine FE.walk_ofG (l := PySem.Challenge.rw_countfold_k08_rows_worth_and_added) (n := 63) (k := 6) (x := "_law_script") rfl (by decide) (by kernel_rfl) ⟨rfl, by decide, by decide⟩ ?F
    intro w mg fa h Y G hmg0
    obtain ⟨K, KX, c⟩ := Y
    have T : countfold_k08_rows_worth_and_added.Tx w K mg h := ⟨KX, G, c⟩
    have hmg : mg ("law" : PySem.Str) = some (.ref fa) := by
      have e : (HandSHeadRun.topDef countfold_k08_rows_worth_and_added.R.prog 13).name = ("law" : PySem.Str) := by kernel_rfl
      rw [← e]
      exact hmg0
    obtain ⟨fd, F⟩ := T.d.def_ 11 (d := countfold_k08_rows_worth_and_added.dd ("law", none) "law" "law" (countfold_k08_rows_worth_and_added.topS 13) [] []) rfl
    have e := hmg.symm.trans (He.glo_ok KX G (T.fact 11))
    cases e
    have b := L2.FunD.bindsA (ps := ["_law_script"]) F fun _ _ _ _ _ _ us hl => match us, hl with | [_], _ => rfl
    exact ⟨K, fd, _, KX, fun s v => b s [v] rfl, fun H a ns hl hb _ hS => FE.sp_law (C := countfold_k08_rows_worth_and_added.C0) hS (countfold_k08_rows_worth_and_added.law_true ns hl hb), fun base _ _ => countfold_k08_rows_worth_and_added.ok_law T F⟩
